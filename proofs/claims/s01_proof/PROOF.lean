import PyProof.Rows.All
import Wide.All
import OpenK.AllK
import Wide.FinOn
import PyProof.EqAt
import PyProof.EqKinds
import PyProof.TupleCall
import KE.BitLaws
import Open.SpecLaws
import KE.OsHead
import KE.OsGo
import PySem.Challenge.RW_netshares_s01_answers
set_option Elab.async false
/-! Plain mathematics over the specification's functions: no model of Python here. -/
namespace NM
open Km357

/-! ### lists -/
theorem take_snoc {α : Type} : ∀ {l : List α} {i : Nat} {x : α}, l[i]? = some x → l.take (i + 1) = l.take i ++ [x]
  | [], i, x, h => by simp at h
  | a :: l, 0, x, h => by
    have e : a = x := Option.some.inj h
    subst e
    rfl
  | a :: l, i + 1, x, h => by
    have ih := take_snoc (l := l) (i := i) (x := x) h
    show a :: l.take (i + 1) = a :: l.take i ++ [x]
    rw [ih]
    rfl
theorem range_foldl {α : Type} (f : α → Nat → α) (s : α) (n : Nat) : (List.range (n + 1)).foldl f s = f ((List.range n).foldl f s) n := by
  rw [List.range_succ, List.foldl_append]
  rfl
theorem at_some {l : List Nat} {k x : Nat} (h : l[k]? = some x) : at_ l k = x := by
  unfold at_
  rw [List.getD_eq_getElem?_getD, h]
  rfl
theorem at_lt {l : List Nat} {k : Nat} (h : k < l.length) : l[k]? = some (at_ l k) := by
  unfold at_
  rw [List.getD_eq_getElem?_getD, List.getElem?_eq_getElem h]
  rfl
theorem at_set_same {l : List Nat} {k x : Nat} (h : k < l.length) : at_ (l.set k x) k = x := at_some (List.getElem?_set_self h)
theorem at_set_ne {l : List Nat} {j k x : Nat} (h : j ≠ k) : at_ (l.set j x) k = at_ l k := by
  unfold at_
  rw [List.getD_eq_getElem?_getD, List.getD_eq_getElem?_getD, List.getElem?_set_ne h]

/-! ### the check -/
def bitsN (c : Nat) (i : Nat) : Nat := (List.range i).foldl (fun x _ => crcBit x) c
theorem bitsN_zero (c : Nat) : bitsN c 0 = c := rfl
theorem bitsN_succ (c i : Nat) : bitsN c (i + 1) = crcBit (bitsN c i) := range_foldl _ _ _
theorem crcByte_eq (c b : Nat) : crcByte c b = bitsN (c ^^^ b) 8 := rfl
theorem crcBit_lt {c : Nat} (h : c < 2 ^ 32) : crcBit c < 2 ^ 32 := by
  unfold crcBit
  split
  · exact Nat.xor_lt_two_pow (by omega) (by decide)
  · omega
theorem bitsN_lt {c : Nat} (h : c < 2 ^ 32) : ∀ i, bitsN c i < 2 ^ 32
  | 0 => h
  | i + 1 => by
    rw [bitsN_succ]
    exact crcBit_lt (bitsN_lt h i)
theorem crcByte_lt {c b : Nat} (h : c < 2 ^ 32) (hb : b < 256) : crcByte c b < 2 ^ 32 := by
  rw [crcByte_eq]
  exact bitsN_lt (Nat.xor_lt_two_pow h (Nat.lt_trans hb (by decide))) 8
theorem crcFold_lt : ∀ {l : List Nat} {c : Nat}, c < 2 ^ 32 → (∀ b ∈ l, b < 256) → l.foldl crcByte c < 2 ^ 32
  | [], _, h, _ => h
  | b :: l, c, h, hb => by
    show (l.foldl crcByte (crcByte c b)) < 2 ^ 32
    exact crcFold_lt (crcByte_lt h (hb b (List.mem_cons_self ..))) fun x hx => hb x (List.mem_cons_of_mem _ hx)
theorem crc_lt {l : List Nat} (hb : ∀ b ∈ l, b < 256) : crc l < 2 ^ 32 := Nat.xor_lt_two_pow (crcFold_lt (by decide) hb) (by decide)

/-! ### numbers of four bytes -/
theorem le4 (v : Nat) : le 4 v = [v % 256, v / 256 % 256, v / 65536 % 256, v / 16777216 % 256] := by
  unfold le
  simp [List.range_succ]
theorem num4 (a b c d : Nat) (pre post : List Nat) : num (pre ++ a :: b :: c :: d :: post) pre.length 4 = a + 256 * (b + 256 * (c + 256 * d)) := by
  unfold num
  rw [List.drop_left]
  simp
theorem num_le {v : Nat} (h : v < 2 ^ 32) : v % 256 + 256 * (v / 256 % 256 + 256 * (v / 65536 % 256 + 256 * (v / 16777216 % 256))) = v := by omega
theorem le_num {a b c d : Nat} (ha : a < 256) (hb : b < 256) (hc : c < 256) (hd : d < 256) : le 4 (a + 256 * (b + 256 * (c + 256 * d))) = [a, b, c, d] := by
  rw [le4]
  have e1 : (a + 256 * (b + 256 * (c + 256 * d))) % 256 = a := by omega
  have e2 : (a + 256 * (b + 256 * (c + 256 * d))) / 256 % 256 = b := by omega
  have e3 : (a + 256 * (b + 256 * (c + 256 * d))) / 65536 % 256 = c := by omega
  have e4 : (a + 256 * (b + 256 * (c + 256 * d))) / 16777216 % 256 = d := by omega
  rw [e1, e2, e3, e4]

/-! ### a message -/
/-- right, as the program looks at it -/
def Right (l : List Nat) : Prop := num l 12 4 = crc (l.take 12) ∧ (at_ l 0 = 1 ∨ at_ l 0 = 2) ∧ at_ l 1 < 16 ∧ at_ l 2 = 0 ∧ at_ l 3 = 0 ∧ num l 4 4 ≠ 0 ∧ num l 8 4 ≤ 200
instance (l : List Nat) : Decidable (Right l) := by unfold Right; infer_instance
theorem len_succ {α : Type} {l : List α} {n : Nat} (h : l.length = n + 1) : ∃ a r, l = a :: r ∧ r.length = n := by
  cases l with
  | nil => simp at h
  | cons a r => exact ⟨a, r, rfl, Nat.succ.inj h⟩
theorem len16 {l : List Nat} (h : l.length = 16) : ∃ a0 a1 a2 a3 a4 a5 a6 a7 a8 a9 b0 b1 b2 b3 b4 b5, l = [a0, a1, a2, a3, a4, a5, a6, a7, a8, a9, b0, b1, b2, b3, b4, b5] := by
  obtain ⟨a0, l0, e0, h0⟩ := len_succ h
  obtain ⟨a1, l1, e1, h1⟩ := len_succ h0
  obtain ⟨a2, l2, e2, h2⟩ := len_succ h1
  obtain ⟨a3, l3, e3, h3⟩ := len_succ h2
  obtain ⟨a4, l4, e4, h4⟩ := len_succ h3
  obtain ⟨a5, l5, e5, h5⟩ := len_succ h4
  obtain ⟨a6, l6, e6, h6⟩ := len_succ h5
  obtain ⟨a7, l7, e7, h7⟩ := len_succ h6
  obtain ⟨a8, l8, e8, h8⟩ := len_succ h7
  obtain ⟨a9, l9, e9, h9⟩ := len_succ h8
  obtain ⟨b0, l10, e10, h10⟩ := len_succ h9
  obtain ⟨b1, l11, e11, h11⟩ := len_succ h10
  obtain ⟨b2, l12, e12, h12⟩ := len_succ h11
  obtain ⟨b3, l13, e13, h13⟩ := len_succ h12
  obtain ⟨b4, l14, e14, h14⟩ := len_succ h13
  obtain ⟨b5, l15, e15, h15⟩ := len_succ h14
  have e := List.eq_nil_of_length_eq_zero h15
  exact ⟨a0, a1, a2, a3, a4, a5, a6, a7, a8, a9, b0, b1, b2, b3, b4, b5, by rw [e0, e1, e2, e3, e4, e5, e6, e7, e8, e9, e10, e11, e12, e13, e14, e15, e]⟩
theorem messageOf_eq {l : List Nat} (h : l.length = 16) (hb : ∀ b ∈ l, b < 256) : messageOf l = if Right l then some ⟨at_ l 0, at_ l 1, num l 4 4, num l 8 4⟩ else none := by
  obtain ⟨a0, a1, a2, a3, a4, a5, a6, a7, a8, a9, b0, b1, b2, b3, b4, b5, rfl⟩ := len16 h
  have h0 := hb a0 (by simp)
  have h1 := hb a1 (by simp)
  have h4 := hb a4 (by simp)
  have h5 := hb a5 (by simp)
  have h6 := hb a6 (by simp)
  have h7 := hb a7 (by simp)
  have h8 := hb a8 (by simp)
  have h9 := hb a9 (by simp)
  have g0 := hb b0 (by simp)
  have g1 := hb b1 (by simp)
  have g2 := hb b2 (by simp)
  have g3 := hb b3 (by simp)
  have g4 := hb b4 (by simp)
  have g5 := hb b5 (by simp)
  have hc : crc [a0, a1, a2, a3, a4, a5, a6, a7, a8, a9, b0, b1] < 2 ^ 32 := crc_lt fun x hx => hb x (List.mem_of_mem_take (i := 12) hx)
  have n4 : num [a0, a1, a2, a3, a4, a5, a6, a7, a8, a9, b0, b1, b2, b3, b4, b5] 4 4 = a4 + 256 * (a5 + 256 * (a6 + 256 * a7)) := num4 a4 a5 a6 a7 [a0, a1, a2, a3] _
  have n8 : num [a0, a1, a2, a3, a4, a5, a6, a7, a8, a9, b0, b1, b2, b3, b4, b5] 8 4 = a8 + 256 * (a9 + 256 * (b0 + 256 * b1)) := num4 a8 a9 b0 b1 [a0, a1, a2, a3, a4, a5, a6, a7] _
  have n12 : num [a0, a1, a2, a3, a4, a5, a6, a7, a8, a9, b0, b1, b2, b3, b4, b5] 12 4 = b2 + 256 * (b3 + 256 * (b4 + 256 * b5)) := num4 b2 b3 b4 b5 [a0, a1, a2, a3, a4, a5, a6, a7, a8, a9, b0, b1] _
  have m0 : num [a0, a1, a2, a3, a4, a5, a6, a7, a8, a9, b0, b1, b2, b3, b4, b5] 0 1 = a0 := by simp [num]
  have m1 : num [a0, a1, a2, a3, a4, a5, a6, a7, a8, a9, b0, b1, b2, b3, b4, b5] 1 1 = a1 := by simp [num]
  unfold messageOf Right
  simp only [m0, m1, n4, n8, n12]
  have t12 : List.take 12 [a0, a1, a2, a3, a4, a5, a6, a7, a8, a9, b0, b1, b2, b3, b4, b5] = [a0, a1, a2, a3, a4, a5, a6, a7, a8, a9, b0, b1] := rfl
  have q0 : at_ [a0, a1, a2, a3, a4, a5, a6, a7, a8, a9, b0, b1, b2, b3, b4, b5] 0 = a0 := rfl
  have q1 : at_ [a0, a1, a2, a3, a4, a5, a6, a7, a8, a9, b0, b1, b2, b3, b4, b5] 1 = a1 := rfl
  have q2 : at_ [a0, a1, a2, a3, a4, a5, a6, a7, a8, a9, b0, b1, b2, b3, b4, b5] 2 = a2 := rfl
  have q3 : at_ [a0, a1, a2, a3, a4, a5, a6, a7, a8, a9, b0, b1, b2, b3, b4, b5] 3 = a3 := rfl
  rw [t12, q0, q1, q2, q3]
  unfold Message.bytes checked
  simp only [le_num h4 h5 h6 h7, le_num h8 h9 g0 g1, List.cons_append, List.nil_append]
  have key : [a0, a1, a2, a3, a4, a5, a6, a7, a8, a9, b0, b1, b2, b3, b4, b5] = a0 :: a1 :: 0 :: 0 :: a4 :: a5 :: a6 :: a7 :: a8 :: a9 :: b0 :: b1 :: le 4 (crc [a0, a1, 0, 0, a4, a5, a6, a7, a8, a9, b0, b1]) ↔
      (b2 + 256 * (b3 + 256 * (b4 + 256 * b5)) = crc [a0, a1, a2, a3, a4, a5, a6, a7, a8, a9, b0, b1] ∧ a2 = 0 ∧ a3 = 0) := by
    constructor
    · intro e'
      simp only [List.cons.injEq, true_and] at e'
      obtain ⟨z2, z3, e3⟩ := e'
      subst z2 z3
      generalize crc [a0, a1, 0, 0, a4, a5, a6, a7, a8, a9, b0, b1] = C at *
      rw [le4] at e3
      simp only [List.cons.injEq] at e3
      obtain ⟨x1, x2, x3, x4, _⟩ := e3
      refine ⟨?_, rfl, rfl⟩
      rw [x1, x2, x3, x4]
      exact num_le hc
    · rintro ⟨e, rfl, rfl⟩
      have e2 := le_num g2 g3 g4 g5
      rw [e] at e2
      rw [e2]
  have F : FLOWS = 16 := rfl
  have M : MOST = 200 := rfl
  rw [F, M]
  by_cases p : (b2 + 256 * (b3 + 256 * (b4 + 256 * b5)) = crc [a0, a1, a2, a3, a4, a5, a6, a7, a8, a9, b0, b1] ∧ (a0 = 1 ∨ a0 = 2) ∧ a1 < 16 ∧ a2 = 0 ∧ a3 = 0 ∧ a4 + 256 * (a5 + 256 * (a6 + 256 * a7)) ≠ 0 ∧ a8 + 256 * (a9 + 256 * (b0 + 256 * b1)) ≤ 200)
  · rw [if_pos p, if_pos]
    exact ⟨by omega, by omega, p.2.2.1, by omega, p.2.2.2.2.2.2, key.mpr ⟨p.1, p.2.2.2.1, p.2.2.2.2.1⟩⟩
  · rw [if_neg p, if_neg]
    intro q
    obtain ⟨k1, k2, k3⟩ := key.mp q.2.2.2.2.2
    exact p ⟨k1, by omega, q.2.2.1, k2, k3, by omega, q.2.2.2.2.1⟩
end NM
set_option Elab.async false
namespace NM
open Km357

/-! ### the lines of a path -/
def bitsOf (p : Nat) : List Nat := (List.range 16).filter fun k => p.testBit k
theorem mem_bitsOf {p k : Nat} : k ∈ bitsOf p ↔ k < 16 ∧ p.testBit k = true := by
  unfold bitsOf
  rw [List.mem_filter, List.mem_range]
theorem bitsOf_nodup (p : Nat) : (bitsOf p).Nodup := List.Nodup.sublist List.filter_sublist List.nodup_range
theorem testBit_big {p n k : Nat} (h : p < 2 ^ n) (hk : n ≤ k) : p.testBit k = false := Nat.testBit_lt_two_pow (Nat.lt_of_lt_of_le h (Nat.pow_le_pow_right (by decide) hk))
theorem bit_lt {p n k : Nat} (h : p < 2 ^ n) (hk : p.testBit k = true) : k < n := by
  refine Nat.lt_of_not_le fun q => ?_
  rw [testBit_big h q] at hk
  cases hk
theorem bitsOf_lt {p n k : Nat} (h : p < 2 ^ n) (hk : k ∈ bitsOf p) : k < n := bit_lt h (mem_bitsOf.mp hk).2
theorem bitsOf_ne {p : Nat} (h : p < 2 ^ 16) (h0 : p ≠ 0) : bitsOf p ≠ [] := by
  intro e
  refine h0 (Nat.eq_of_testBit_eq fun i => ?_)
  rw [Nat.zero_testBit]
  cases q : p.testBit i with
  | false => rfl
  | true =>
    have m : i ∈ bitsOf p := mem_bitsOf.mpr ⟨bit_lt h q, q⟩
    rw [e] at m
    cases m
theorem testBit_shift (p k : Nat) : p / 2 ^ k % 2 = if p.testBit k = true then 1 else 0 := by
  rw [Nat.testBit_eq_decide_div_mod_eq]
  by_cases h : p / 2 ^ k % 2 = 1
  · rw [if_pos (decide_eq_true h), h]
  · rw [if_neg (by simp [h])]
    omega

/-! ### room -/
theorem hasRoom_iff {room : List Nat} {p : Nat} : hasRoom room p = true ↔ ∀ k, k < room.length → p.testBit k = true → 1 ≤ at_ room k := by
  unfold hasRoom
  rw [List.all_eq_true]
  constructor
  · intro h k hk hb
    have q := h k (List.mem_range.mpr hk)
    rw [hb] at q
    simpa using q
  · intro h k hk
    have q := h k (List.mem_range.mp hk)
    cases e : p.testBit k with
    | false => rfl
    | true => simpa using q e
theorem hasRoom_bits {room : List Nat} {p : Nat} (hp : p < 2 ^ room.length) (hl : room.length ≤ 16) : hasRoom room p = true ↔ ∀ k ∈ bitsOf p, at_ room k ≠ 0 := by
  rw [hasRoom_iff]
  constructor
  · intro h k hk
    have := h k (bitsOf_lt hp hk) (mem_bitsOf.mp hk).2
    omega
  · intro h k hk hb
    have := h k (mem_bitsOf.mpr ⟨by omega, hb⟩)
    omega
theorem hasRoom_false {room : List Nat} {p k : Nat} (hp : p < 2 ^ room.length) (hk : k ∈ bitsOf p) (h : at_ room k = 0) : hasRoom room p = false := by
  cases e : hasRoom room p with
  | false => rfl
  | true =>
    have := hasRoom_iff.mp e k (bitsOf_lt hp hk) (mem_bitsOf.mp hk).2
    omega
theorem takeOne_length (room : List Nat) (p : Nat) : (takeOne room p).length = room.length := by
  unfold takeOne
  rw [List.length_map, List.length_range]
theorem takeOne_at {room : List Nat} {p k : Nat} (hk : k < room.length) : at_ (takeOne room p) k = if p.testBit k = true then at_ room k - 1 else at_ room k := by
  apply at_some
  unfold takeOne
  rw [List.getElem?_map, List.getElem?_range hk]
  rfl
/-- one unit of a line -/
def dec (r : List Nat) (k : Nat) : List Nat := r.set k (at_ r k - 1)
theorem dec_length (r : List Nat) (k : Nat) : (dec r k).length = r.length := List.length_set ..
theorem decs_length : ∀ (ks : List Nat) (r : List Nat), (ks.foldl dec r).length = r.length
  | [], _ => rfl
  | k :: ks, r => by
    show (ks.foldl dec (dec r k)).length = r.length
    rw [decs_length ks, dec_length]
theorem decs_at : ∀ (ks : List Nat) (r : List Nat), ks.Nodup → (∀ k ∈ ks, k < r.length) → ∀ j, at_ (ks.foldl dec r) j = if j ∈ ks then at_ r j - 1 else at_ r j
  | [], r, _, _, j => by simp
  | k :: ks, r, hn, hk, j => by
    obtain ⟨n1, n2⟩ := List.nodup_cons.mp hn
    have hl := hk k (List.mem_cons_self ..)
    have ih := decs_at ks (dec r k) n2 (fun i hi => by rw [dec_length]; exact hk i (List.mem_cons_of_mem _ hi)) j
    show at_ (ks.foldl dec (dec r k)) j = _
    rw [ih]
    by_cases e : j = k
    · subst e
      rw [if_neg n1, if_pos (List.mem_cons_self ..)]
      exact at_set_same hl
    · have e2 : at_ (dec r k) j = at_ r j := at_set_ne fun q => e q.symm
      rw [e2]
      by_cases m : j ∈ ks
      · rw [if_pos m, if_pos (List.mem_cons_of_mem _ m)]
      · rw [if_neg m, if_neg (by intro q; rcases List.mem_cons.mp q with q | q; exact e q; exact m q)]
theorem ext_at {l m : List Nat} (hl : l.length = m.length) (h : ∀ k, k < l.length → at_ l k = at_ m k) : l = m := by
  refine List.ext_getElem? fun k => ?_
  by_cases hk : k < l.length
  · rw [at_lt hk, at_lt (hl ▸ hk), h k hk]
  · rw [List.getElem?_eq_none (by omega), List.getElem?_eq_none (by omega)]
theorem takeOne_decs {room : List Nat} {p : Nat} (hp : p < 2 ^ room.length) (hl : room.length ≤ 16) : takeOne room p = (bitsOf p).foldl dec room := by
  refine ext_at (by rw [takeOne_length, decs_length]) fun k hk => ?_
  rw [takeOne_length] at hk
  rw [takeOne_at hk, decs_at _ _ (bitsOf_nodup p) (fun k h => bitsOf_lt hp h)]
  by_cases hb : p.testBit k = true
  · rw [if_pos hb, if_pos (mem_bitsOf.mpr ⟨by omega, hb⟩)]
  · rw [if_neg hb, if_neg fun h => hb (mem_bitsOf.mp h).2]
theorem takeOne_mono {room : List Nat} {p q : Nat} (h : hasRoom (takeOne room p) q = true) : hasRoom room q = true := by
  rw [hasRoom_iff] at h ⊢
  intro k hk hb
  have a := h k (by rw [takeOne_length]; exact hk) hb
  rw [takeOne_at hk] at a
  split at a <;> omega

/-! ### a round -/
abbrev SS := List Nat × List Nat
def stepF (w : List Wish) (s : SS) (i : Nat) : SS :=
  if at_ s.2 i < (w.getD i ⟨0, 0⟩).most ∧ hasRoom s.1 (w.getD i ⟨0, 0⟩).path = true then (takeOne s.1 (w.getD i ⟨0, 0⟩).path, s.2.set i (at_ s.2 i + 1)) else s
def roundTo (w : List Wish) (s : SS) (k : Nat) : SS := (List.range k).foldl (stepF w) s
theorem round_eq (w : List Wish) (s : SS) : round w s = roundTo w s w.length := rfl
theorem roundTo_zero (w : List Wish) (s : SS) : roundTo w s 0 = s := rfl
theorem roundTo_succ (w : List Wish) (s : SS) (k : Nat) : roundTo w s (k + 1) = stepF w (roundTo w s k) k := range_foldl _ _ _
theorem stepF_pos {w : List Wish} {s : SS} {i : Nat} (h : at_ s.2 i < (w.getD i ⟨0, 0⟩).most ∧ hasRoom s.1 (w.getD i ⟨0, 0⟩).path = true) : stepF w s i = (takeOne s.1 (w.getD i ⟨0, 0⟩).path, s.2.set i (at_ s.2 i + 1)) := if_pos h
theorem stepF_neg {w : List Wish} {s : SS} {i : Nat} (h : ¬ (at_ s.2 i < (w.getD i ⟨0, 0⟩).most ∧ hasRoom s.1 (w.getD i ⟨0, 0⟩).path = true)) : stepF w s i = s := if_neg h
theorem stepF_len1 (w : List Wish) (s : SS) (i : Nat) : (stepF w s i).1.length = s.1.length := by
  unfold stepF
  split
  · exact takeOne_length ..
  · rfl
theorem stepF_len2 (w : List Wish) (s : SS) (i : Nat) : (stepF w s i).2.length = s.2.length := by
  unfold stepF
  split
  · exact List.length_set ..
  · rfl
theorem roundTo_len1 (w : List Wish) (s : SS) : ∀ k, (roundTo w s k).1.length = s.1.length
  | 0 => rfl
  | k + 1 => by rw [roundTo_succ, stepF_len1, roundTo_len1 w s k]
theorem roundTo_len2 (w : List Wish) (s : SS) : ∀ k, (roundTo w s k).2.length = s.2.length
  | 0 => rfl
  | k + 1 => by rw [roundTo_succ, stepF_len2, roundTo_len2 w s k]
theorem sum_set : ∀ {l : List Nat} {i : Nat}, i < l.length → (l.set i (at_ l i + 1)).sum = l.sum + 1
  | [], _, h => by simp at h
  | a :: r, 0, _ => by
    show ((a + 1) :: r).sum = (a :: r).sum + 1
    rw [List.sum_cons, List.sum_cons]
    omega
  | a :: r, i + 1, h => by
    have ih := sum_set (l := r) (i := i) (by simpa using h)
    show (a :: r.set i (at_ r i + 1)).sum = (a :: r).sum + 1
    rw [List.sum_cons, List.sum_cons, ih]
    omega
/-- what the flag says -/
def Gave (w : List Wish) (s : SS) (k : Nat) (b : Bool) : Prop := (b = false → roundTo w s k = s) ∧ (b = true → s.2.sum < (roundTo w s k).2.sum)
theorem Gave.start (w : List Wish) (s : SS) : Gave w s 0 false := ⟨fun _ => rfl, fun h => absurd h (by decide)⟩
theorem Gave.skip {w : List Wish} {s : SS} {k : Nat} {b : Bool} (g : Gave w s k b) (h : stepF w (roundTo w s k) k = roundTo w s k) : Gave w s (k + 1) b := by
  unfold Gave
  rw [roundTo_succ, h]
  exact g
theorem Gave.give {w : List Wish} {s : SS} {k : Nat} {b : Bool} (g : Gave w s k b) (hk : k < s.2.length)
    (h : at_ (roundTo w s k).2 k < (w.getD k ⟨0, 0⟩).most ∧ hasRoom (roundTo w s k).1 (w.getD k ⟨0, 0⟩).path = true) : Gave w s (k + 1) true := by
  unfold Gave
  rw [roundTo_succ, stepF_pos h]
  refine ⟨fun q => absurd q (by decide), fun _ => ?_⟩
  show s.2.sum < ((roundTo w s k).2.set k (at_ (roundTo w s k).2 k + 1)).sum
  rw [sum_set (by rw [roundTo_len2]; exact hk)]
  cases b with
  | false => rw [g.1 rfl]; omega
  | true => have := g.2 rfl; omega
theorem Gave.done {w : List Wish} {s : SS} {b : Bool} (g : Gave w s w.length b) : b = decide (round w s ≠ s) := by
  cases b with
  | false =>
    have e : round w s = s := g.1 rfl
    simp [e]
  | true =>
    have l := g.2 rfl
    rw [← round_eq] at l
    have e : round w s ≠ s := fun q => by rw [q] at l; omega
    simp [e]

/-! ### rounds come to an end -/
def Stuck (w : List Wish) (s : SS) (i : Nat) : Prop := (w.getD i ⟨0, 0⟩).most ≤ at_ s.2 i ∨ hasRoom s.1 (w.getD i ⟨0, 0⟩).path = false
def Lvl (w : List Wish) (j : Nat) (s : SS) : Prop := ∀ i, i < w.length → at_ s.2 i = j ∨ Stuck w s i
theorem stuck_step {w : List Wish} {s : SS} {i k : Nat} (h : Stuck w s i) : Stuck w (stepF w s k) i := by
  by_cases c : at_ s.2 k < (w.getD k ⟨0, 0⟩).most ∧ hasRoom s.1 (w.getD k ⟨0, 0⟩).path = true
  · rw [stepF_pos c]
    rcases h with h | h
    · refine .inl ?_
      show _ ≤ at_ (s.2.set k (at_ s.2 k + 1)) i
      by_cases e : k = i
      · subst e
        omega
      · rw [at_set_ne e]
        exact h
    · refine .inr ?_
      cases q : hasRoom (takeOne s.1 (w.getD k ⟨0, 0⟩).path) (w.getD i ⟨0, 0⟩).path with
      | false => rfl
      | true =>
        rw [takeOne_mono q] at h
        cases h
  · rw [stepF_neg c]
    exact h
theorem step_at_ne {w : List Wish} {s : SS} {i k : Nat} (h : k ≠ i) : at_ (stepF w s k).2 i = at_ s.2 i := by
  unfold stepF
  split
  · exact at_set_ne h
  · rfl
theorem lvl_round {w : List Wish} {j : Nat} {s : SS} (hl : s.2.length = w.length) (h : Lvl w j s) : Lvl w (j + 1) (round w s) := by
  have key : ∀ k, k ≤ w.length → (∀ i, i < k → at_ (roundTo w s k).2 i = j + 1 ∨ Stuck w (roundTo w s k) i) ∧ ∀ i, k ≤ i → i < w.length → at_ (roundTo w s k).2 i = j ∨ Stuck w (roundTo w s k) i := by
    intro k
    induction k with
    | zero => exact fun _ => ⟨fun i hi => absurd hi (Nat.not_lt_zero _), fun i _ hi => h i hi⟩
    | succ k ih =>
      intro hk
      obtain ⟨a, b⟩ := ih (by omega)
      rw [roundTo_succ]
      refine ⟨fun i hi => ?_, fun i h1 h2 => ?_⟩
      · by_cases e : i = k
        · subst e
          rcases b i (Nat.le_refl _) hk with q | q
          · by_cases c : at_ (roundTo w s i).2 i < (w.getD i ⟨0, 0⟩).most ∧ hasRoom (roundTo w s i).1 (w.getD i ⟨0, 0⟩).path = true
            · rw [stepF_pos c]
              refine .inl ?_
              show at_ ((roundTo w s i).2.set i (at_ (roundTo w s i).2 i + 1)) i = j + 1
              rw [at_set_same (by rw [roundTo_len2, hl]; exact hk), q]
            · refine .inr (stuck_step ?_)
              unfold Stuck
              cases z : hasRoom (roundTo w s i).1 (w.getD i ⟨0, 0⟩).path with
              | false => exact .inr rfl
              | true => exact .inl (Nat.le_of_not_lt fun y => c ⟨y, z⟩)
          · exact .inr (stuck_step q)
        · rcases a i (by omega) with q | q
          · exact .inl (by rw [step_at_ne (Ne.symm e)]; exact q)
          · exact .inr (stuck_step q)
      · rcases b i (by omega) h2 with q | q
        · exact .inl (by rw [step_at_ne (by omega)]; exact q)
        · exact .inr (stuck_step q)
  exact fun i hi => (key w.length (Nat.le_refl _)).1 i hi
theorem lvl_stop {w : List Wish} {s : SS} (hw : ∀ i, i < w.length → (w.getD i ⟨0, 0⟩).most ≤ 200) (h : Lvl w 200 s) : round w s = s := by
  have key : ∀ k, k ≤ w.length → roundTo w s k = s := by
    intro k
    induction k with
    | zero => exact fun _ => rfl
    | succ k ih =>
      intro hk
      rw [roundTo_succ, ih (by omega)]
      refine stepF_neg fun c => ?_
      have hm := hw k hk
      rcases h k hk with q | q | q
      · rw [q] at c
        omega
      · omega
      · rw [q] at c
        cases c.2
  exact key _ (Nat.le_refl _)
theorem rounds_stop {w : List Wish} {s : SS} (h : round w s = s) : ∀ m, rounds w m s = s
  | 0 => rfl
  | _ + 1 => if_pos h
theorem rounds_go {w : List Wish} {s : SS} {m : Nat} (h : round w s ≠ s) : rounds w (m + 1) s = rounds w m (round w s) := if_neg h
/-- the loop's word: m rounds are left at most -/
structure Loop (room : List Nat) (w : List Wish) (m : Nat) (s : SS) : Prop where
  le : m ≤ 200
  lvl : Lvl w (200 - m) s
  l1 : s.1.length = room.length
  l2 : s.2.length = w.length
  fin : (rounds w m s).2 = shares room w
theorem Loop.start (room : List Nat) (w : List Wish) : Loop room w 200 (room, w.map fun _ => 0) := by
  refine ⟨Nat.le_refl _, fun i hi => .inl ?_, rfl, List.length_map .., rfl⟩
  apply at_some
  show (w.map fun _ => 0)[i]? = some 0
  rw [List.getElem?_map, List.getElem?_eq_getElem hi]
  rfl
theorem Loop.stop {room : List Nat} {w : List Wish} {m : Nat} {s : SS} (L : Loop room w m s) (h : round w s = s) : s.2 = shares room w := by
  have e := L.fin
  rw [rounds_stop h m] at e
  exact e
theorem Loop.go {room : List Nat} {w : List Wish} {m : Nat} {s : SS} (hw : ∀ i, i < w.length → (w.getD i ⟨0, 0⟩).most ≤ 200) (L : Loop room w m s) (h : round w s ≠ s) : ∃ m', m = m' + 1 ∧ Loop room w m' (round w s) := by
  cases m with
  | zero => exact absurd (lvl_stop hw L.lvl) h
  | succ m' =>
    have hl := L.le
    refine ⟨m', rfl, by omega, ?_, ?_, ?_, ?_⟩
    · have e := lvl_round L.l2 L.lvl
      have e2 : 200 - (m' + 1) + 1 = 200 - m' := by omega
      rw [e2] at e
      exact e
    · rw [round_eq, roundTo_len1]
      exact L.l1
    · rw [round_eq, roundTo_len2]
      exact L.l2
    · rw [← rounds_go h]
      exact L.fin
end NM
set_option Elab.async false
namespace NM
open Km357

/-! ### what goes over a line -/
theorem foldl_add : ∀ (l : List Nat) (a : Nat), l.foldl (· + ·) a = a + l.sum
  | [], a => by simp
  | x :: l, a => by
    show l.foldl (· + ·) (a + x) = a + (x :: l).sum
    rw [foldl_add l, List.sum_cons]
    omega
theorem sum_eq (l : List Nat) : Km357.sum l = l.sum := by
  unfold Km357.sum
  rw [foldl_add]
  omega
theorem at_map {α : Type} (g : α → Nat) (l : List α) {i : Nat} {x : α} (h : l[i]? = some x) : at_ (l.map g) i = g x := by
  apply at_some
  rw [List.getElem?_map, h]
  rfl
theorem range_map {α β : Type} (l : List α) (g : Nat → β) (g' : α → β) (h : ∀ i x, l[i]? = some x → g i = g' x) : (List.range l.length).map g = l.map g' := by
  refine List.ext_getElem? fun i => ?_
  rw [List.getElem?_map, List.getElem?_map]
  by_cases hi : i < l.length
  · rw [List.getElem?_range hi, List.getElem?_eq_getElem hi]
    exact congrArg some (h i _ (List.getElem?_eq_getElem hi))
  · rw [List.getElem?_eq_none (by rw [List.length_range]; omega), List.getElem?_eq_none (by omega)]
    rfl
theorem sum_filter {α : Type} (p : α → Bool) (g : α → Nat) : ∀ l : List α, (l.map fun x => if p x = true then g x else 0).sum = ((l.filter p).map g).sum
  | [] => rfl
  | x :: l => by
    rw [List.map_cons, List.sum_cons, sum_filter p g l, List.filter_cons]
    cases e : p x with
    | true => rw [if_pos rfl, if_pos rfl, List.map_cons, List.sum_cons]
    | false => rw [if_neg Bool.false_ne_true, if_neg Bool.false_ne_true, Nat.zero_add]
/-- what all flows over a line may use -/
def useOf (fl : List Flow) (k : Nat) : Nat := ((fl.filter fun f => f.wish.path.testBit k).map Flow.bound).sum
theorem over_eq (fl : List Flow) (k : Nat) : over (fl.map fun f => f.wish.path) (fl.map Flow.bound) k = useOf fl k := by
  unfold over useOf
  rw [sum_eq, ← sum_filter, List.length_map]
  congr 1
  refine range_map fl _ _ fun i x h => ?_
  rw [at_map _ _ h, at_map _ _ h]

/-! ### the least of some -/
theorem foldl_min : ∀ (l : List Nat) (a : Nat), l.foldl min a ≤ a ∧ (∀ x ∈ l, l.foldl min a ≤ x) ∧ (l.foldl min a = a ∨ l.foldl min a ∈ l)
  | [], a => ⟨Nat.le_refl _, fun x h => absurd h (List.not_mem_nil), .inl rfl⟩
  | x :: l, a => by
    obtain ⟨h1, h2, h3⟩ := foldl_min l (min a x)
    show l.foldl min (min a x) ≤ a ∧ (∀ y ∈ x :: l, l.foldl min (min a x) ≤ y) ∧ (l.foldl min (min a x) = a ∨ l.foldl min (min a x) ∈ x :: l)
    refine ⟨by omega, fun y hy => ?_, ?_⟩
    · rcases List.mem_cons.mp hy with e | e
      · subst e
        omega
      · exact h2 y e
    · rcases h3 with e | e
      · by_cases q : a ≤ x
        · exact .inl (by omega)
        · exact .inr (List.mem_cons.mpr (.inl (by omega)))
      · exact .inr (List.mem_cons_of_mem _ e)
/-- of a net's room and wishes -/
structure Ok (room : List Nat) (ws : List Wish) : Prop where
  r16 : room.length ≤ 16
  r200 : ∀ x ∈ room, x ≤ 200
  w16 : ws.length ≤ 16
  p0 : ∀ w ∈ ws, w.path ≠ 0
  p2 : ∀ w ∈ ws, w.path < 2 ^ room.length
  m200 : ∀ w ∈ ws, w.most ≤ 200
abbrev NetOk (n : Net) : Prop := Ok n.room (n.flows.map Flow.wish)
theorem NetOk.at {n : Net} (h : NetOk n) {i : Nat} {f : Flow} (hf : n.flows[i]? = some f) : f.wish.path ≠ 0 ∧ f.wish.path < 2 ^ n.room.length ∧ f.wish.most ≤ 200 := by
  have m : f.wish ∈ n.flows.map Flow.wish := List.mem_map_of_mem (List.mem_of_getElem? hf)
  exact ⟨h.p0 _ m, h.p2 _ m, h.m200 _ m⟩
theorem flow_at {n : Net} {i : Nat} {f : Flow} (h : n.flows[i]? = some f) : n.flow i = f := by
  unfold Net.flow
  rw [List.getD_eq_getElem?_getD, h]
  rfl
/-- the room less what may be used, of each line of a path -/
def spares (n : Net) (p : Nat) : List Int := (bitsOf p).map fun k => (at_ n.room k : Int) - (useOf n.flows k : Int)
theorem spare_eq {n : Net} {i : Nat} {f : Flow} (h : n.flows[i]? = some f) :
    n.spare i = ((List.range n.room.length).filterMap fun k => if f.wish.path.testBit k = true then some (at_ n.room k - useOf n.flows k) else none).foldl min 200 := by
  unfold Net.spare
  simp only [flow_at h, over_eq]
  rfl
theorem spare_of {n : Net} {i : Nat} {f : Flow} (ok : NetOk n) (h : n.flows[i]? = some f) {m : Int} (hm : m ∈ spares n f.wish.path) (hl : ∀ y ∈ spares n f.wish.path, m ≤ y) :
    (0 < m → (n.spare i : Int) = m) ∧ (m ≤ 0 → n.spare i = 0) := by
  obtain ⟨k0, hk0, e0⟩ := List.mem_map.mp hm
  have l0 := bitsOf_lt (ok.at h).2.1 hk0
  have b0 := (mem_bitsOf.mp hk0).2
  rw [spare_eq h]
  obtain ⟨h1, h2, h3⟩ := foldl_min ((List.range n.room.length).filterMap fun k => if f.wish.path.testBit k = true then some (at_ n.room k - useOf n.flows k) else none) 200
  have q0 := h2 (at_ n.room k0 - useOf n.flows k0) (List.mem_filterMap.mpr ⟨k0, List.mem_range.mpr l0, if_pos b0⟩)
  refine ⟨fun hp => ?_, fun hn => by omega⟩
  have r0 : at_ n.room k0 ≤ 200 := ok.r200 _ (List.mem_of_getElem? (at_lt l0))
  rcases h3 with e | e
  · omega
  · obtain ⟨k, hk, ek⟩ := List.mem_filterMap.mp e
    have hk' := List.mem_range.mp hk
    by_cases c : f.wish.path.testBit k = true
    · rw [if_pos c] at ek
      have ek' := Option.some.inj ek
      have hr := ok.r16
      have z := hl _ (List.mem_map.mpr ⟨k, mem_bitsOf.mpr ⟨by omega, c⟩, rfl⟩)
      omega
    · rw [if_neg c] at ek
      cases ek
theorem spares_ne {n : Net} {i : Nat} {f : Flow} (ok : NetOk n) (h : n.flows[i]? = some f) : 0 < (spares n f.wish.path).length := by
  unfold spares
  rw [List.length_map]
  obtain ⟨a, b, _⟩ := ok.at h
  refine List.length_pos_iff.mpr (bitsOf_ne (Nat.lt_of_lt_of_le b (Nat.pow_le_pow_right (by decide) ok.r16)) a)

/-! ### planning -/
def canTell (f : Flow) : Bool := !f.waits && decide (f.number < 4294967295)
def told1 (f : Flow) (x : Nat) : Flow := { f with told := x, number := f.number + 1, before := f.told, waits := true }
theorem tell_can {f : Flow} (h : canTell f = true) (x : Nat) : f.tell x = told1 f x := by
  unfold canTell at h
  rw [Bool.and_eq_true, decide_eq_true_eq] at h
  unfold Flow.tell
  rw [if_neg (by have e : COUNT = 4294967296 := rfl; omega)]
  rfl
theorem tell_not {f : Flow} (h : canTell f = false) (w : f.waits = false) (x : Nat) : f.tell x = f := by
  unfold canTell at h
  rw [w] at h
  have h' : ¬ f.number < 4294967295 := by simpa using h
  unfold Flow.tell
  rw [if_pos (by have e : COUNT = 4294967296 := rfl; omega)]
theorem can_waits {f : Flow} (h : canTell f = true) : f.waits = false := by
  unfold canTell at h
  rw [Bool.and_eq_true] at h
  simpa using h.1
theorem set_self {α : Type} : ∀ {l : List α} {i : Nat} {x : α}, l[i]? = some x → l.set i x = l
  | [], _, _, h => by simp at h
  | a :: l, 0, x, h => by
    have e : a = x := Option.some.inj h
    subst e
    rfl
  | a :: l, i + 1, x, h => by
    show a :: l.set i x = a :: l
    rw [set_self (l := l) h]
def put (m : Net) (i : Nat) (f : Flow) : Net := { m with flows := m.flows.set i f }
theorem put_self {m : Net} {i : Nat} {f : Flow} (h : m.flows[i]? = some f) : put m i f = m := by
  unfold put
  rw [set_self h]
def stepA (t : List Nat) (m : Net) (i : Nat) : Net :=
  if (m.flow i).waits = false ∧ at_ t i < (m.flow i).told then { m with flows := m.flows.set i ((m.flow i).tell (at_ t i)) } else m
def stepB (t : List Nat) (m : Net) (i : Nat) : Net :=
  if (m.flow i).waits = false ∧ (m.flow i).told < at_ t i ∧ 0 < m.spare i then { m with flows := m.flows.set i ((m.flow i).tell (min (at_ t i) ((m.flow i).told + m.spare i))) } else m
def toA (t : List Nat) (n : Net) (k : Nat) : Net := (List.range k).foldl (stepA t) n
def toB (t : List Nat) (n : Net) (k : Nat) : Net := (List.range k).foldl (stepB t) n
theorem toA_zero (t : List Nat) (n : Net) : toA t n 0 = n := rfl
theorem toB_zero (t : List Nat) (n : Net) : toB t n 0 = n := rfl
theorem toA_succ (t : List Nat) (n : Net) (k : Nat) : toA t n (k + 1) = stepA t (toA t n k) k := range_foldl _ _ _
theorem toB_succ (t : List Nat) (n : Net) (k : Nat) : toB t n (k + 1) = stepB t (toB t n k) k := range_foldl _ _ _
theorem plan_eq (n : Net) : n.plan = toB n.fair (toA n.fair n n.flows.length) n.flows.length := rfl
theorem stepA_yes {t : List Nat} {m : Net} {i : Nat} {f : Flow} (h : m.flows[i]? = some f) (c : canTell f = true) (l : at_ t i < f.told) : stepA t m i = put m i (told1 f (at_ t i)) := by
  unfold stepA
  rw [flow_at h, if_pos ⟨can_waits c, l⟩, tell_can c]
  rfl
theorem stepA_no {t : List Nat} {m : Net} {i : Nat} {f : Flow} (h : m.flows[i]? = some f) (c : ¬ (canTell f = true ∧ at_ t i < f.told)) : stepA t m i = m := by
  unfold stepA
  rw [flow_at h]
  by_cases q : f.waits = false ∧ at_ t i < f.told
  · rw [if_pos q]
    have e : canTell f = false := by
      cases z : canTell f with
      | false => rfl
      | true => exact absurd ⟨z, q.2⟩ c
    rw [tell_not e q.1]
    exact put_self h
  · rw [if_neg q]
theorem stepB_yes {t : List Nat} {m : Net} {i : Nat} {f : Flow} (h : m.flows[i]? = some f) (c : canTell f = true) (l : f.told < at_ t i) (s : 0 < m.spare i) : stepB t m i = put m i (told1 f (min (at_ t i) (f.told + m.spare i))) := by
  unfold stepB
  rw [flow_at h, if_pos ⟨can_waits c, l, s⟩, tell_can c]
  rfl
theorem stepB_no {t : List Nat} {m : Net} {i : Nat} {f : Flow} (h : m.flows[i]? = some f) (c : ¬ (canTell f = true ∧ f.told < at_ t i ∧ 0 < m.spare i)) : stepB t m i = m := by
  unfold stepB
  rw [flow_at h]
  by_cases q : f.waits = false ∧ f.told < at_ t i ∧ 0 < m.spare i
  · rw [if_pos q]
    have e : canTell f = false := by
      cases z : canTell f with
      | false => rfl
      | true => exact absurd ⟨z, q.2⟩ c
    rw [tell_not e q.1]
    exact put_self h
  · rw [if_neg q]
/-- room and wishes stay -/
structure Kin (n m : Net) : Prop where
  room : m.room = n.room
  wish : m.flows.map Flow.wish = n.flows.map Flow.wish
theorem Kin.refl (n : Net) : Kin n n := ⟨rfl, rfl⟩
theorem Kin.trans {a b c : Net} (x : Kin a b) (y : Kin b c) : Kin a c := ⟨y.room.trans x.room, y.wish.trans x.wish⟩
theorem Kin.ok {n m : Net} (k : Kin n m) (h : NetOk n) : NetOk m := by
  unfold NetOk
  rw [k.room, k.wish]
  exact h
theorem Kin.len {n m : Net} (k : Kin n m) : m.flows.length = n.flows.length := by
  have e := congrArg List.length k.wish
  rw [List.length_map, List.length_map] at e
  exact e
theorem map_set_same {α β : Type} (g : α → β) : ∀ {l : List α} {i : Nat} {x y : α}, l[i]? = some x → g y = g x → (l.set i y).map g = l.map g
  | [], _, _, _, h, _ => by simp at h
  | a :: l, 0, x, y, h, e => by
    have z : a = x := Option.some.inj h
    subst z
    show g y :: l.map g = g a :: l.map g
    rw [e]
  | a :: l, i + 1, x, y, h, e => by
    show g a :: (l.set i y).map g = g a :: l.map g
    rw [map_set_same g (l := l) h e]
theorem Kin.put {m : Net} {i : Nat} {f g : Flow} (h : m.flows[i]? = some f) (e : g.wish = f.wish) : Kin m (put m i g) := ⟨rfl, map_set_same Flow.wish h e⟩
theorem tell_wish (f : Flow) (x : Nat) : (f.tell x).wish = f.wish := by
  unfold Flow.tell
  split <;> rfl
theorem stepA_kin {t : List Nat} {m : Net} {i : Nat} (h : i < m.flows.length) : Kin m (stepA t m i) := by
  have e := List.getElem?_eq_getElem h
  unfold stepA
  split
  · rw [flow_at e]
    exact Kin.put e (tell_wish _ _)
  · exact Kin.refl m
theorem stepB_kin {t : List Nat} {m : Net} {i : Nat} (h : i < m.flows.length) : Kin m (stepB t m i) := by
  have e := List.getElem?_eq_getElem h
  unfold stepB
  split
  · rw [flow_at e]
    exact Kin.put e (tell_wish _ _)
  · exact Kin.refl m
theorem toA_kin (t : List Nat) (n : Net) : ∀ k, k ≤ n.flows.length → Kin n (toA t n k)
  | 0, _ => Kin.refl n
  | k + 1, h => by
    have ih := toA_kin t n k (by omega)
    rw [toA_succ]
    exact ih.trans (stepA_kin (by rw [ih.len]; omega))
theorem toB_kin (t : List Nat) (n : Net) : ∀ k, k ≤ n.flows.length → Kin n (toB t n k)
  | 0, _ => Kin.refl n
  | k + 1, h => by
    have ih := toB_kin t n k (by omega)
    rw [toB_succ]
    exact ih.trans (stepB_kin (by rw [ih.len]; omega))
theorem plan_kin (n : Net) : Kin n n.plan := by
  rw [plan_eq]
  have a := toA_kin n.fair n n.flows.length (Nat.le_refl _)
  exact a.trans (toB_kin n.fair _ _ (Nat.le_of_eq a.len.symm))
theorem roundTo_len2_eq (w : List Wish) (s : SS) (hl : s.2.length = w.length) : (round w s).2.length = w.length := by rw [round_eq, roundTo_len2, hl]
theorem rounds_len2 (w : List Wish) : ∀ (m : Nat) (s : SS), s.2.length = w.length → (rounds w m s).2.length = w.length
  | 0, _, h => h
  | m + 1, s, h => by
    unfold rounds
    split
    · exact h
    · exact rounds_len2 w m _ (roundTo_len2_eq w s h)
theorem shares_len (room : List Nat) (w : List Wish) : (shares room w).length = w.length := rounds_len2 w 200 _ (List.length_map ..)
theorem fair_len (n : Net) : n.fair.length = n.flows.length := by
  unfold Net.fair
  rw [shares_len, List.length_map]
end NM
set_option Elab.async false
namespace NM
open Km357Neutral (S step step0 step1 asked1 callOf told may)

/-! ### a list of whole numbers as calls -/
abbrev asInts (l : List Nat) : List Int := l.map fun (x : Nat) => (x : Int)
theorem nats_ints (l : List Nat) : Km357Neutral.nats (asInts l) = l := by
  unfold Km357Neutral.nats asInts
  rw [List.map_map]
  have e : (Int.toNat ∘ fun (x : Nat) => (x : Int)) = id := by
    funext x
    exact Int.toNat_natCast x
  rw [e, List.map_id]
/-- the call at the head of what's left: how many numbers it has, which call it is, of which object -/
inductive Turn : List Nat → Nat → Km357.Call → Nat → Prop where
  | start (k z : Nat) (r : List Nat) (h : z ≤ r.length) : Turn (0 :: k :: z :: r) (3 + z) (.nStart (r.take z) (r.take z).length) k
  | flow (k p m : Nat) (r : List Nat) : Turn (1 :: k :: p :: m :: r) 4 (.flow p m) k
  | wish (k i m : Nat) (r : List Nat) : Turn (2 :: k :: i :: m :: r) 4 (.wish i m) k
  | say (k i : Nat) (r : List Nat) : Turn (3 :: k :: i :: r) 3 (.nSay i) k
  | heard (k : Nat) (r : List Nat) (h : 16 ≤ r.length) (b : ∀ x ∈ r.take 16, x < 256) : Turn (4 :: k :: 16 :: r) 19 (.nHeard (r.take 16)) k
  | of_ (k i : Nat) (r : List Nat) : Turn (5 :: k :: i :: r) 3 (.of_ i) k
  | sstart (k i : Nat) (r : List Nat) : Turn (6 :: k :: i :: r) 3 (.sStart i) k
  | sheard (k : Nat) (r : List Nat) (h : 16 ≤ r.length) (b : ∀ x ∈ r.take 16, x < 256) : Turn (7 :: k :: 16 :: r) 19 (.sHeard (r.take 16)) k
  | ssay (k : Nat) (r : List Nat) : Turn (8 :: k :: r) 2 .sSay k
  | share (k : Nat) (r : List Nat) : Turn (9 :: k :: r) 2 .share k
theorem Turn.pos {L : List Nat} {m k : Nat} {x : Km357.Call} (h : Turn L m x k) : 0 < m ∧ m ≤ L.length := by
  cases h <;> simp only [List.length_cons] <;> omega
theorem call_row {p : Int} {r : List Nat} {c : List (List Int)} {t : List Int} (hs : PyKm357.shape p = some (1, 1)) (h : PyFlat.call PyKm357.shape (p :: asInts r) = some (c, t)) :
    ∃ k z r', r = k :: z :: r' ∧ z ≤ r'.length ∧ c = [[p, (k : Int)], asInts (r'.take z)] ∧ t = asInts (r'.drop z) := by
  match r with
  | [] =>
    simp [PyFlat.call, hs] at h
  | [k] =>
    simp [PyFlat.call, hs, PyFlat.rows, PyFlat.row] at h
  | k :: z :: r' =>
    by_cases hz : z ≤ r'.length
    · refine ⟨k, z, r', rfl, hz, ?_⟩
      have e : PyFlat.row (asInts (z :: r')) = some (asInts (r'.take z), asInts (r'.drop z)) := by
        show (if 0 ≤ (z : Int) ∧ (z : Int).toNat ≤ (asInts r').length then _ else _) = _
        rw [if_pos ⟨by omega, by rw [Int.toNat_natCast, List.length_map]; exact hz⟩, Int.toNat_natCast]
        unfold asInts
        rw [List.map_take, List.map_drop]
      have e2 : PyFlat.call PyKm357.shape (p :: asInts (k :: z :: r')) = some ([[p, (k : Int)], asInts (r'.take z)], asInts (r'.drop z)) := by
        show (match PyKm357.shape p with | none => none | some (n, j) => _) = _
        rw [hs]
        show (if (asInts (k :: z :: r')).length < 1 then none else match PyFlat.rows 1 (asInts (z :: r')) with | none => none | some (xs, t) => some (((p :: (asInts (k :: z :: r')).take 1) :: xs, t))) = _
        rw [if_neg (by simp)]
        have e3 : PyFlat.rows 1 (asInts (z :: r')) = some ([asInts (r'.take z)], asInts (r'.drop z)) := by
          show (match PyFlat.row (asInts (z :: r')) with | none => none | some (x, s) => _) = _
          rw [e]
          rfl
        rw [e3]
        rfl
      rw [e2] at h
      cases h
      exact ⟨rfl, rfl⟩
    · exfalso
      have e : PyFlat.row (asInts (z :: r')) = none := by
        show (if 0 ≤ (z : Int) ∧ (z : Int).toNat ≤ (asInts r').length then _ else _) = _
        rw [if_neg]
        rintro ⟨_, q⟩
        rw [Int.toNat_natCast, List.length_map] at q
        exact hz q
      have e2 : PyFlat.call PyKm357.shape (p :: asInts (k :: z :: r')) = none := by
        show (match PyKm357.shape p with | none => none | some (n, j) => _) = _
        rw [hs]
        show (if (asInts (k :: z :: r')).length < 1 then none else match PyFlat.rows 1 (asInts (z :: r')) with | none => none | some (xs, t) => some (((p :: (asInts (k :: z :: r')).take 1) :: xs, t))) = _
        rw [if_neg (by simp)]
        have e3 : PyFlat.rows 1 (asInts (z :: r')) = none := by
          show (match PyFlat.row (asInts (z :: r')) with | none => none | some (x, s) => _) = _
          rw [e]
        rw [e3]
      rw [e2] at h
      cases h
theorem call_nums {p : Int} {n : Nat} {r : List Nat} {c : List (List Int)} {t : List Int} (hs : PyKm357.shape p = some (n, 0)) (h : PyFlat.call PyKm357.shape (p :: asInts r) = some (c, t)) :
    n ≤ r.length ∧ c = [p :: asInts (r.take n)] ∧ t = asInts (r.drop n) := by
  by_cases hn : (asInts r).length < n
  · exfalso
    have e : PyFlat.call PyKm357.shape (p :: asInts r) = none := by
      show (match PyKm357.shape p with | none => none | some (n, j) => _) = _
      rw [hs]
      exact if_pos hn
    rw [e] at h
    cases h
  · have e : PyFlat.call PyKm357.shape (p :: asInts r) = some ([p :: (asInts r).take n], (asInts r).drop n) := by
      show (match PyKm357.shape p with | none => none | some (n, j) => _) = _
      rw [hs]
      exact if_neg hn
    rw [e] at h
    cases h
    rw [List.length_map] at hn
    exact ⟨Nat.not_lt.mp hn, by unfold asInts; rw [List.map_take], by unfold asInts; rw [List.map_drop]⟩
theorem len_row {r : List Nat} {z : Nat} (h : z ≤ r.length) (k : Int) (ha : (Km357Neutral.natural k 8 && (decide ((asInts (r.take z)).length = 16) && (asInts (r.take z)).all fun (z : Int) => Km357Neutral.natural z 8)) = true) :
    z = 16 ∧ ∀ x ∈ r.take 16, x < 256 := by
  rw [Bool.and_eq_true, Bool.and_eq_true, decide_eq_true_eq, List.length_map, List.length_take, Nat.min_eq_left h] at ha
  obtain ⟨_, e, q⟩ := ha
  subst e
  refine ⟨rfl, fun x hx => ?_⟩
  rw [List.all_eq_true] at q
  have := q (x : Int) (List.mem_map.mpr ⟨x, hx, rfl⟩)
  unfold Km357Neutral.natural at this
  rw [Bool.and_eq_true, decide_eq_true_eq, decide_eq_true_eq] at this
  omega
theorem cut1 {r : List Nat} {n : Nat} (h : n + 1 ≤ r.length) : ∃ a r', r = a :: r' ∧ n ≤ r'.length := by
  cases r with
  | nil => exact absurd h (Nat.not_succ_le_zero n)
  | cons a r' => exact ⟨a, r', rfl, Nat.le_of_succ_le_succ h⟩
/-- what one step does, once the call and its object are known -/
def stepOf (s : S) (k : Nat) (x : Km357.Call) : S × List Int := match Km357.whose x with
  | 0 => step0 s k x
  | _ => step1 s k x
theorem turn_of {L : List Nat} {c : List (List Int)} {t : List Int} (h : PyFlat.call PyKm357.shape (asInts L) = some (c, t)) (ha : asked1 c = true) :
    ∃ m x k, Turn L m x k ∧ t = asInts (L.drop m) ∧ ∀ s, step s c = stepOf s k x := by
  match L with
  | [] => cases h
  | 0 :: r =>
    obtain ⟨k, z, r', rfl, hz, rfl, rfl⟩ := call_row (p := 0) rfl h
    refine ⟨_, _, _, .start k z r' hz, by rw [Nat.add_comm]; rfl, fun s => ?_⟩
    have e : callOf [[0, (k : Int)], asInts (r'.take z)] = some (.nStart (r'.take z) (r'.take z).length) := by
      show some (Km357.Call.nStart (Km357Neutral.nats (asInts (r'.take z))) (asInts (r'.take z)).length) = _
      rw [nats_ints, List.length_map]
    unfold step
    rw [e]
    rfl
  | 1 :: r =>
    obtain ⟨hn0, rfl, rfl⟩ := call_nums (p := 1) (n := 3) rfl h
    obtain ⟨k, r1, rfl, hn1⟩ := cut1 hn0
    obtain ⟨p, r2, rfl, hn2⟩ := cut1 hn1
    obtain ⟨m, r3, rfl, hn3⟩ := cut1 hn2
    exact ⟨_, _, _, .flow k p m r3, rfl, fun s => rfl⟩
  | 2 :: r =>
    obtain ⟨hn0, rfl, rfl⟩ := call_nums (p := 2) (n := 3) rfl h
    obtain ⟨k, r1, rfl, hn1⟩ := cut1 hn0
    obtain ⟨p, r2, rfl, hn2⟩ := cut1 hn1
    obtain ⟨m, r3, rfl, hn3⟩ := cut1 hn2
    exact ⟨_, _, _, .wish k p m r3, rfl, fun s => rfl⟩
  | 3 :: r =>
    obtain ⟨hn0, rfl, rfl⟩ := call_nums (p := 3) (n := 2) rfl h
    obtain ⟨k, r1, rfl, hn1⟩ := cut1 hn0
    obtain ⟨p, r2, rfl, hn2⟩ := cut1 hn1
    exact ⟨_, _, _, .say k p r2, rfl, fun s => rfl⟩
  | 4 :: r =>
    obtain ⟨k, z, r', rfl, hz, rfl, rfl⟩ := call_row (p := 4) rfl h
    obtain ⟨rfl, hb⟩ := len_row hz k ha
    refine ⟨_, _, _, .heard k r' hz hb, rfl, fun s => ?_⟩
    have e : callOf [[4, (k : Int)], asInts (r'.take 16)] = some (.nHeard (r'.take 16)) := by
      show some (Km357.Call.nHeard (Km357Neutral.nats (asInts (r'.take 16)))) = _
      rw [nats_ints]
    unfold step
    rw [e]
    rfl
  | 5 :: r =>
    obtain ⟨hn0, rfl, rfl⟩ := call_nums (p := 5) (n := 2) rfl h
    obtain ⟨k, r1, rfl, hn1⟩ := cut1 hn0
    obtain ⟨p, r2, rfl, hn2⟩ := cut1 hn1
    exact ⟨_, _, _, .of_ k p r2, rfl, fun s => rfl⟩
  | 6 :: r =>
    obtain ⟨hn0, rfl, rfl⟩ := call_nums (p := 6) (n := 2) rfl h
    obtain ⟨k, r1, rfl, hn1⟩ := cut1 hn0
    obtain ⟨p, r2, rfl, hn2⟩ := cut1 hn1
    exact ⟨_, _, _, .sstart k p r2, rfl, fun s => rfl⟩
  | 7 :: r =>
    obtain ⟨k, z, r', rfl, hz, rfl, rfl⟩ := call_row (p := 7) rfl h
    obtain ⟨rfl, hb⟩ := len_row hz k ha
    refine ⟨_, _, _, .sheard k r' hz hb, rfl, fun s => ?_⟩
    have e : callOf [[7, (k : Int)], asInts (r'.take 16)] = some (.sHeard (r'.take 16)) := by
      show some (Km357.Call.sHeard (Km357Neutral.nats (asInts (r'.take 16)))) = _
      rw [nats_ints]
    unfold step
    rw [e]
    rfl
  | 8 :: r =>
    obtain ⟨hn0, rfl, rfl⟩ := call_nums (p := 8) (n := 1) rfl h
    obtain ⟨k, r1, rfl, hn1⟩ := cut1 hn0
    exact ⟨_, _, _, .ssay k r1, rfl, fun s => rfl⟩
  | 9 :: r =>
    obtain ⟨hn0, rfl, rfl⟩ := call_nums (p := 9) (n := 1) rfl h
    obtain ⟨k, r1, rfl, hn1⟩ := cut1 hn0
    exact ⟨_, _, _, .share k r1, rfl, fun s => rfl⟩
  | (n + 10) :: r =>
    exfalso
    have e : PyKm357.shape ((n + 10 : Nat) : Int) = none := by
      unfold PyKm357.shape
      rw [if_neg (by omega), if_neg (by omega), if_neg (by omega), if_neg (by omega), if_neg (by omega), if_neg (by omega), if_neg (by omega), if_neg (by omega), if_neg (by omega), if_neg (by omega)]
    have e2 : PyFlat.call PyKm357.shape (asInts ((n + 10) :: r)) = none := by
      unfold PyFlat.call
      show (match PyKm357.shape ((n + 10 : Nat) : Int) with | none => none | some (n', j) => if (asInts r).length < n' then none else match PyFlat.rows j ((asInts r).drop n') with | none => none | some (xs, t) => some ((((n + 10 : Nat) : Int) :: (asInts r).take n') :: xs, t)) = _
      rw [e]
    rw [e2] at h
    cases h

/-! ### the objects -/
def netOf (s : S) : Km357.Net := (s.1.getD 0 none).getD ⟨[], []⟩
def srcOf (s : S) (k : Nat) : Km357.Source := (s.2.getD k none).getD ⟨0, 0, 0⟩
structure SOk (s : S) : Prop where
  l1 : s.1.length = 1
  l2 : s.2.length = 4
theorem P_ite {α : Type} (P : α → Prop) {c : Prop} {d : Decidable c} {a b : α} (ha : P a) (hb : P b) : P (@ite α c d a b) := by
  by_cases h : c
  · rw [if_pos h]
    exact ha
  · rw [if_neg h]
    exact hb
theorem n_neg {n : Km357.Net} {x : Km357.Call} (h : Km357.isStart x = true) (v : (Km357.nDoes n x).2.value < 0) : (Km357.nDoes n x).1 = n := by
  match x, h with
  | .nStart l m, _ => exact P_ite (fun y : Km357.Net × Km357.Ans => y.2.value < 0 → y.1 = n) (fun _ => rfl) (fun q => absurd q (show ¬ (0 : Int) < 0 by decide)) v
  | .sStart me, _ => rfl
theorem s_neg {n : Km357.Source} {x : Km357.Call} (h : Km357.isStart x = true) (v : (Km357.sDoes n x).2.value < 0) : (Km357.sDoes n x).1 = n := by
  match x, h with
  | .nStart l m, _ => rfl
  | .sStart me, _ => exact P_ite (fun y : Km357.Source × Km357.Ans => y.2.value < 0 → y.1 = n) (fun _ => rfl) (fun q => absurd q (show ¬ (0 : Int) < 0 by decide)) v
theorem step0_ok {s : S} {k : Nat} {x : Km357.Call} (hs : SOk s) (ne : (step0 s k x).2.isEmpty = false) :
    SOk (step0 s k x).1 ∧ netOf (step0 s k x).1 = (Km357.nDoes (netOf s) x).1 ∧ (∀ j, srcOf (step0 s k x).1 j = srcOf s j) ∧ (step0 s k x).2 = told (Km357.nDoes (netOf s) x).2 := by
  obtain ⟨s1, s2⟩ := s
  have hl1 := hs.l1
  match s1, hl1 with
  | [o], _ =>
    by_cases hk : 1 ≤ k
    · exfalso
      have e : step0 ([o], s2) k x = (([o], s2), []) := if_pos hk
      rw [e] at ne
      cases ne
    · have e0 : k = 0 := by omega
      subst e0
      cases o with
      | some a => exact ⟨⟨rfl, hs.l2⟩, rfl, fun j => rfl, rfl⟩
      | none =>
        by_cases hst : Km357.isStart x = true
        · have e : step0 ([none], s2) 0 x = (if (told (Km357.nDoes ⟨[], []⟩ x).2).headD 0 < 0 then ([none], s2) else ([some (Km357.nDoes ⟨[], []⟩ x).1], s2), told (Km357.nDoes ⟨[], []⟩ x).2) := by
            show (if Km357.isStart x = true then _ else _) = _
            rw [if_pos hst]
            rfl
          rw [e]
          by_cases hv : (told (Km357.nDoes ⟨[], []⟩ x).2).headD 0 < 0
          · rw [if_pos hv]
            exact ⟨hs, (n_neg hst hv).symm, fun j => rfl, rfl⟩
          · rw [if_neg hv]
            exact ⟨⟨rfl, hs.l2⟩, rfl, fun j => rfl, rfl⟩
        · exfalso
          have e : step0 ([none], s2) 0 x = (([none], s2), []) := by
            show (if Km357.isStart x = true then _ else _) = _
            rw [if_neg hst]
          rw [e] at ne
          cases ne
theorem getD_set_ne {α : Type} {l : List α} {i j : Nat} {x d : α} (h : j ≠ i) : (l.set i x).getD j d = l.getD j d := by
  rw [List.getD_eq_getElem?_getD, List.getD_eq_getElem?_getD, List.getElem?_set_ne (Ne.symm h)]
theorem getD_set_same {α : Type} {l : List α} {i : Nat} {x d : α} (h : i < l.length) : (l.set i x).getD i d = x := by
  rw [List.getD_eq_getElem?_getD, List.getElem?_set_self h]
  rfl
theorem step1_ok {s : S} {k : Nat} {x : Km357.Call} (hs : SOk s) (ne : (step1 s k x).2.isEmpty = false) :
    k < 4 ∧ SOk (step1 s k x).1 ∧ netOf (step1 s k x).1 = netOf s ∧ srcOf (step1 s k x).1 k = (Km357.sDoes (srcOf s k) x).1 ∧ (∀ j, j ≠ k → srcOf (step1 s k x).1 j = srcOf s j) ∧ (step1 s k x).2 = told (Km357.sDoes (srcOf s k) x).2 := by
  by_cases hk : 4 ≤ k
  · exfalso
    have e : step1 s k x = (s, []) := if_pos hk
    rw [e] at ne
    cases ne
  · have hk' : k < s.2.length := by rw [hs.l2]; omega
    refine ⟨by omega, ?_⟩
    have e1 : step1 s k x = match (s.2).getD k none with
        | some a => ((s.1, (s.2).set k (some (Km357.sDoes a x).1)), told (Km357.sDoes a x).2)
        | none => if Km357.isStart x then
            (if (told (Km357.sDoes ⟨0, 0, 0⟩ x).2).headD 0 < 0 then s else (s.1, (s.2).set k (some (Km357.sDoes ⟨0, 0, 0⟩ x).1)), told (Km357.sDoes ⟨0, 0, 0⟩ x).2)
          else (s, []) := if_neg hk
    have put : ∀ y, SOk (s.1, (s.2).set k (some y)) ∧ netOf (s.1, (s.2).set k (some y)) = netOf s ∧ srcOf (s.1, (s.2).set k (some y)) k = y ∧ (∀ j, j ≠ k → srcOf (s.1, (s.2).set k (some y)) j = srcOf s j) := fun y => by
      refine ⟨⟨hs.l1, by rw [List.length_set]; exact hs.l2⟩, rfl, ?_, fun j hj => ?_⟩
      · unfold srcOf
        show (((s.2).set k (some y)).getD k none).getD _ = _
        rw [getD_set_same hk']
        rfl
      · unfold srcOf
        show (((s.2).set k (some y)).getD j none).getD _ = _
        rw [getD_set_ne hj]
    cases o : (s.2).getD k none with
    | some a =>
      have es : srcOf s k = a := by
        unfold srcOf
        rw [o]
        rfl
      rw [o] at e1
      rw [e1, es]
      obtain ⟨p1, p2, p3, p4⟩ := put (Km357.sDoes a x).1
      exact ⟨p1, p2, p3, p4, rfl⟩
    | none =>
      have es : srcOf s k = ⟨0, 0, 0⟩ := by
        unfold srcOf
        rw [o]
        rfl
      rw [o] at e1
      by_cases hst : Km357.isStart x = true
      · have e1 : step1 s k x = (if (told (Km357.sDoes ⟨0, 0, 0⟩ x).2).headD 0 < 0 then s else (s.1, (s.2).set k (some (Km357.sDoes ⟨0, 0, 0⟩ x).1)), told (Km357.sDoes ⟨0, 0, 0⟩ x).2) := e1.trans (if_pos hst)
        rw [e1, es]
        by_cases hv : (told (Km357.sDoes ⟨0, 0, 0⟩ x).2).headD 0 < 0
        · rw [if_pos hv]
          exact ⟨hs, rfl, es.trans (s_neg hst hv).symm, fun j _ => rfl, rfl⟩
        · rw [if_neg hv]
          obtain ⟨p1, p2, p3, p4⟩ := put (Km357.sDoes ⟨0, 0, 0⟩ x).1
          exact ⟨p1, p2, p3, p4, rfl⟩
      · exfalso
        have e1 : step1 s k x = (s, []) := e1.trans (if_neg hst)
        rw [e1] at ne
        cases ne

/-! ### what's left to do -/
def Left (N : List Nat) (A : List Int) (at_ : Nat) (s : S) (D : List Int) : Prop :=
  ∃ f rest, PyFlat.calls PyKm357.shape f (asInts (N.drop at_)) = some rest ∧ rest.all asked1 = true ∧ may s rest = true ∧ A = D ++ PyFlat.told (PyFlat.played step s rest)
theorem Left.done {N : List Nat} {A D : List Int} {i : Nat} {s : S} (h : Left N A i s D) (hi : N.length ≤ i) : A = D := by
  obtain ⟨f, rest, h1, _, _, h4⟩ := h
  rw [List.drop_eq_nil_of_le hi] at h1
  have e : PyFlat.calls PyKm357.shape f (asInts []) = some [] := by
    cases f <;> rfl
  rw [e] at h1
  cases h1
  rw [h4]
  exact List.append_nil D
theorem Left.go {N : List Nat} {A D : List Int} {i : Nat} {s : S} (h : Left N A i s D) (hs : SOk s) (hi : i < N.length) :
    ∃ m x k s', Turn (N.drop i) m x k ∧ SOk s' ∧
      ((Km357.whose x = 0 ∧ netOf s' = (Km357.nDoes (netOf s) x).1 ∧ (∀ j, srcOf s' j = srcOf s j) ∧ Left N A (i + m) s' (D ++ ((told (Km357.nDoes (netOf s) x).2).length : Int) :: told (Km357.nDoes (netOf s) x).2)) ∨
       (Km357.whose x = 1 ∧ k < 4 ∧ netOf s' = netOf s ∧ srcOf s' k = (Km357.sDoes (srcOf s k) x).1 ∧ (∀ j, j ≠ k → srcOf s' j = srcOf s j) ∧ Left N A (i + m) s' (D ++ ((told (Km357.sDoes (srcOf s k) x).2).length : Int) :: told (Km357.sDoes (srcOf s k) x).2))) := by
  obtain ⟨f, rest, h1, h2, h3, h4⟩ := h
  obtain ⟨p, r, hd⟩ : ∃ p r, N.drop i = p :: r := by
    cases e : N.drop i with
    | nil =>
      have := List.drop_eq_nil_iff.mp e
      omega
    | cons p r => exact ⟨p, r, rfl⟩
  rw [hd] at h1
  cases f with
  | zero => cases h1
  | succ f =>
    have h1 : (match PyFlat.call PyKm357.shape (asInts (p :: r)) with | none => none | some (c, t) => match PyFlat.calls PyKm357.shape f t with | none => none | some cs => some (c :: cs)) = some rest := h1
    cases e1 : PyFlat.call PyKm357.shape (asInts (p :: r)) with
    | none =>
      rw [e1] at h1
      cases h1
    | some ct =>
      obtain ⟨c, t⟩ := ct
      rw [e1] at h1
      have h1 : (match PyFlat.calls PyKm357.shape f t with | none => none | some cs => some (c :: cs)) = some rest := h1
      cases e2 : PyFlat.calls PyKm357.shape f t with
      | none =>
        rw [e2] at h1
        cases h1
      | some cs =>
        rw [e2] at h1
        cases h1
        rw [List.all_cons, Bool.and_eq_true] at h2
        obtain ⟨m, x, k, tn, ht, hst⟩ := turn_of e1 h2.1
        have h3 : (!((step s c).2.isEmpty) && may (step s c).1 cs) = true := h3
        rw [Bool.and_eq_true] at h3
        obtain ⟨h31, h32⟩ := h3
        have ne : (step s c).2.isEmpty = false := by
          cases q : (step s c).2.isEmpty with
          | false => rfl
          | true =>
            rw [q] at h31
            cases h31
        have ht' : t = asInts (N.drop (i + m)) := by
          rw [ht, ← hd, List.drop_drop]
        have h4 : A = D ++ PyFlat.told ((step s c).2 :: PyFlat.played step (step s c).1 cs) := h4
        have h5 : A = (D ++ ((step s c).2.length : Int) :: (step s c).2) ++ PyFlat.told (PyFlat.played step (step s c).1 cs) := by
          rw [h4, List.append_assoc]
          rfl
        rw [ht'] at e2
        have lf : Left N A (i + m) (step s c).1 (D ++ ((step s c).2.length : Int) :: (step s c).2) := ⟨f, cs, e2, h2.2, h32, h5⟩
        rw [hst] at lf ne
        rw [hd]
        unfold stepOf at lf ne
        refine ⟨m, x, k, ?_⟩
        by_cases hw : Km357.whose x = 0
        · rw [hw] at lf ne
          have lf : Left N A (i + m) (step0 s k x).1 (D ++ ((step0 s k x).2.length : Int) :: (step0 s k x).2) := lf
          obtain ⟨p1, p2, p3, p4⟩ := step0_ok hs ne
          rw [p4] at lf
          exact ⟨_, tn, p1, .inl ⟨hw, p2, p3, lf⟩⟩
        · have hw1 : Km357.whose x = 1 := by
            cases x <;> first | rfl | exact absurd rfl hw
          rw [hw1] at lf ne
          have lf : Left N A (i + m) (step1 s k x).1 (D ++ ((step1 s k x).2.length : Int) :: (step1 s k x).2) := lf
          obtain ⟨p0, p1, p2, p3, p5, p4⟩ := step1_ok hs ne
          rw [p4] at lf
          exact ⟨_, tn, p1, .inr ⟨hw1, p0, p2, p3, p5, lf⟩⟩
theorem whole_id (c : List (List Int)) : PyKm357.whole c = c := by
  unfold PyKm357.whole
  split <;> rfl
theorem start_ok : SOk Km357Neutral.start := ⟨rfl, rfl⟩
theorem Left.start {N : List Nat} (h : PyKm357.answers_asked (asInts N) = true) : Left N (PyKm357.answers (asInts N)) 0 Km357Neutral.start [] := by
  unfold PyKm357.answers_asked at h
  unfold PyKm357.answers
  cases e : PyFlat.calls PyKm357.shape (asInts N).length (asInts N) with
  | none =>
    have e2 : PyKm357.calls (asInts N) = none := by
      unfold PyKm357.calls
      rw [e]
    rw [e2] at h
    cases h
  | some cs =>
    have e2 : PyKm357.calls (asInts N) = some cs := by
      unfold PyKm357.calls
      rw [e]
      show some (cs.map PyKm357.whole) = some cs
      have q : PyKm357.whole = id := funext whole_id
      rw [q, List.map_id]
    rw [e2] at h ⊢
    have h : (PyFlat.atMost 1000 cs && Km357Neutral.asked cs) = true := h
    unfold Km357Neutral.asked at h
    rw [Bool.and_eq_true, Bool.and_eq_true, Bool.and_eq_true, Bool.and_eq_true] at h
    exact ⟨_, cs, e, h.2.2.2.1, h.2.2.2.2, rfl⟩
/-! ### how long an answer is -/
theorem told_bytes_len (m : Km357.Message) : (told { value := 0, out := m.bytes }).length = 17 := by
  unfold told Km357Neutral.nums
  rw [List.length_cons, List.length_map]
  unfold Km357.Message.bytes Km357.checked
  rw [List.length_append, List.length_append, List.length_append, le4, le4, le4]
  rfl
theorem one17 {y : Km357.Ans} (h : y.out.length ≤ 16) : (told y).length ≤ 17 := by
  unfold told Km357Neutral.nums
  rw [List.length_cons, List.length_map]
  omega
theorem n_len (n : Km357.Net) (x : Km357.Call) : (told (Km357.nDoes n x).2).length ≤ 17 := by
  cases x <;> simp only [Km357.nDoes] <;> repeat' split
  all_goals first | (rw [told_bytes_len]; exact Nat.le_refl _) | exact one17 (Nat.le_of_ble_eq_true rfl)
theorem s_len (n : Km357.Source) (x : Km357.Call) : (told (Km357.sDoes n x).2).length ≤ 17 := by
  cases x <;> simp only [Km357.sDoes] <;> repeat' split
  all_goals first | (rw [told_bytes_len]; exact Nat.le_refl _) | exact one17 (Nat.le_of_ble_eq_true rfl)
end NM
set_option Elab.async false
set_option linter.all false
set_option maxRecDepth 100000
/-! THE HAND LAYER, for ints, bools, texts, own classes, lists, tuples, dicts, comprehensions, walks over dicts, enumerate, zip, reversed, texts, calls, loops. Paste it whole ahead of your own text; what your proof does not reach may be deleted. -/
namespace L2
open PySem PySem.Spec PyProof.Rows

/-- a key: an int or a str -/
abbrev Key := Sum Int Str
def keyIs : Key → Value → Bool
  | .inl k, v => Value.isInt k v
  | .inr x, v => Value.isStrOf x v
def keyH (w : World) : Key → Int
  | .inl k => hashInt k
  | .inr x => hashStr w x
theorem keyIs_shape : ∀ {k : Key} {v : Value}, keyIs k v = true → (∃ i t, k = Sum.inl i ∧ v = Value.int i t) ∨ (∃ x t, k = Sum.inr x ∧ v = Value.str x t)
  | .inl i, v, h => by
    obtain ⟨t, e⟩ := Value.isInt_shape (k := i) (v := v) h
    exact .inl ⟨i, t, rfl, e⟩
  | .inr x, v, h => by
    obtain ⟨t, e⟩ := Value.isStrOf_shape (x := x) (v := v) h
    exact .inr ⟨x, t, rfl, e⟩
theorem key_ll (a b : Int) : decide ((Sum.inl a : Key) = Sum.inl b) = (a == b) := by
  by_cases e : a = b
  · subst e; simp
  · have h : ¬ (Sum.inl a : Key) = Sum.inl b := fun q => e (Sum.inl.inj q)
    rw [decide_eq_false h]
    exact (beq_eq_false_iff_ne.mpr e).symm
theorem key_rr (a b : Str) : decide ((Sum.inr a : Key) = Sum.inr b) = decide (a = b) := by
  by_cases e : a = b
  · subst e; simp
  · have h : ¬ (Sum.inr a : Key) = Sum.inr b := fun q => e (Sum.inr.inj q)
    rw [decide_eq_false h, decide_eq_false e]
theorem key_lr (a : Int) (b : Str) : decide ((Sum.inl a : Key) = Sum.inr b) = false := decide_eq_false (fun q => nomatch q)
theorem key_rl (a : Str) (b : Int) : decide ((Sum.inr a : Key) = Sum.inl b) = false := decide_eq_false (fun q => nomatch q)

def mixKind (prog : Program) (w : World) : PySem.KeyKind prog w Key where
  is := keyIs
  hash := keyH w
  inj := fun v a b ha hb => by
    rcases keyIs_shape ha with ⟨i, t, rfl, rfl⟩ | ⟨x, t, rfl, rfl⟩
    · rcases keyIs_shape hb with ⟨j, u, rfl, e⟩ | ⟨y, u, rfl, e⟩
      · injection e with e1 _; rw [e1]
      · exact nomatch e
    · rcases keyIs_shape hb with ⟨j, u, rfl, e⟩ | ⟨y, u, rfl, e⟩
      · exact nomatch e
      · injection e with e1 _; rw [e1]
  byValue := fun k v h => by
    rcases keyIs_shape h with ⟨i, t, rfl, rfl⟩ | ⟨x, t, rfl, rfl⟩ <;> rfl
  pyHash := fun hv h => by
    rcases keyIs_shape hv with ⟨i, t, rfl, rfl⟩ | ⟨x, t, rfl, rfl⟩
    · exact wpAny_pyHash_int h
    · exact wpAny_pyHash_str h
  eqBool := fun hu hv h => by
    rcases keyIs_shape hu with ⟨i, t, rfl, rfl⟩ | ⟨x, t, rfl, rfl⟩
    · rcases keyIs_shape hv with ⟨j, u, rfl, rfl⟩ | ⟨y, u, rfl, rfl⟩
      · rw [key_ll] at h; exact wpAny_eqBool_int h
      · rw [key_lr] at h; exact SeqAt.EqAt.int_str i t y u _ _ _ _ h
    · rcases keyIs_shape hv with ⟨j, u, rfl, rfl⟩ | ⟨y, u, rfl, rfl⟩
      · rw [key_rl] at h; exact SeqAt.EqAt.str_int x t j u _ _ _ _ h
      · rw [key_rr] at h; exact wpAny_eqBool_str h
  «strs» := fun k x t v h => by
    rcases keyIs_shape h with ⟨i, u, rfl, e⟩ | ⟨y, u, rfl, e⟩
    · exact nomatch e
    · injection e with e1 _
      subst e1
      cases v <;> rfl

end L2

namespace L2
open PySem PySem.Spec PyProof.Rows

/-- a value, without the heap -/
inductive V where
  | non | bl (b : Bool) | int (i : Int) | str (x : Str) | byt (b : Array UInt8) | flt (b : UInt64) | ref (a : Addr) | ty (n : String)
  deriving DecidableEq

def RelV : V → Value → Prop
  | .non, u => u = Value.none
  | .bl b, u => u = Value.bool b
  | .int i, u => ∃ t, u = Value.int i t
  | .str x, u => ∃ t, u = Value.str x t
  | .byt b, u => ∃ t, u = Value.bytes b t
  | .flt b, u => ∃ t, u = Value.float b t
  | .ref a, u => u = Value.ref a
  | .ty n, u => u = Value.type n

abbrev Vals : List V → List Value → Prop := Paired RelV
theorem Vals.length {xs : List V} {us : List Value} (r : Vals xs us) : xs.length = us.length := Paired.length r
theorem Vals.get : ∀ {xs : List V} {us : List Value} {i : Nat} {x : V}, Vals xs us → xs[i]? = some x → ∃ u, us[i]? = some u ∧ RelV x u
  | _, _, _, _, .nil, e => by simp at e
  | _, _, 0, _, .cons r _, e => by simp at e; subst e; exact ⟨_, rfl, r⟩
  | _, _, i + 1, x, .cons _ t, e => by
    obtain ⟨u, h1, h2⟩ := Vals.get (i := i) (x := x) t (by simpa using e)
    exact ⟨u, by simpa using h1, h2⟩
theorem Vals.set {x : V} {u : Value} (r : RelV x u) : ∀ {xs : List V} {us : List Value} (i : Nat), Vals xs us → Vals (xs.set i x) (us.set i u)
  | _, _, _, .nil => .nil
  | _, _, 0, .cons _ t => .cons r t
  | _, _, i + 1, .cons q t => .cons q (Vals.set r i t)
theorem Vals.append : ∀ {xs ys : List V} {us ws : List Value}, Vals xs us → Vals ys ws → Vals (xs ++ ys) (us ++ ws)
  | _, _, _, _, .nil, s => s
  | _, _, _, _, .cons r t, s => .cons r (Vals.append t s)
theorem Vals.take : ∀ {xs : List V} {us : List Value} (n : Nat), Vals xs us → Vals (xs.take n) (us.take n)
  | _, _, 0, _ => .nil
  | _, _, _ + 1, .nil => .nil
  | _, _, n + 1, .cons r t => .cons r (Vals.take n t)
theorem Vals.drop : ∀ {xs : List V} {us : List Value} (n : Nat), Vals xs us → Vals (xs.drop n) (us.drop n)
  | _, _, 0, r => r
  | _, _, _ + 1, .nil => .nil
  | _, _, n + 1, .cons _ t => Vals.drop n t
theorem Vals.none_of : ∀ {xs : List V} {us : List Value} {i : Nat}, Vals xs us → xs[i]? = none → us[i]? = none := fun {xs us i} r e => by
  have h1 := r.length
  have h2 : xs.length ≤ i := List.getElem?_eq_none_iff.mp e
  exact List.getElem?_eq_none_iff.mpr (by omega)

def RelO : Option V → Option Value → Prop
  | some v, some u => RelV v u
  | none, none => True
  | _, _ => False
def KV {κ : Type} : List (κ × V) → List (κ × Value) → Prop := Paired fun (p : κ × V) (q : κ × Value) => p.1 = q.1 ∧ RelV p.2 q.2

/-- a key of a dict (00_mix): an int or a text -/
def kV : Key → V
  | .inl i => .int i
  | .inr x => .str x

/-- what stands at a tracked address -/
inductive HO where
  /-- a list -/
  | lst (xs : List V)
  /-- a tuple (never changes) -/
  | tup (xs : List V)
  /-- a dict whose keys are ints and texts; one whose keys are tuples of ints and texts (the empty one is both) -/
  | dK (kvs : List (Key × V)) | dT (kvs : List (List Key × V))
  /-- a set of ints: its members, its size -/
  | set (S : Int → Bool) (n : Nat)
  /-- an instance of the class at C, its dict at dx, its attributes -/
  | ins (C dx : Addr) (fs : List (Str × V))
  /-- the dict of the instance at x -/
  | own (x : Addr)
  /-- the dict of an exception -/
  | xd (fs : List (Str × V))
  /-- a bound method, f of x -/
  | met (f x : Addr)
  /-- a range object lo, lo + 1, .. below hi -/
  | rng (lo hi : Int)
  /-- a thing that is known to the object (the script; a dict while a loop walks it): read, never written while it is so -/
  | frz (o : Obj) (u : HO)
  /-- a code object's table -/
  | tbl (ps : Array Value)
  /-- any other thing, by what is true of its one object (a def of one's own: SetO a S n := HO.ext fun h => ..) -/
  | ext (φ : Heap → Prop)

abbrev Hp := Addr → Option HO
def upd (H : Hp) (a : Addr) (o : HO) : Hp := fun b => if b = a then some o else H b
theorem upd_same {H : Hp} {a : Addr} {o : HO} : upd H a o a = some o := by unfold upd; rw [if_pos rfl]
theorem upd_ne {H : Hp} {a b : Addr} {o : HO} (h : b ≠ a) : upd H a o b = H b := by unfold upd; rw [if_neg h]
theorem upd_upd {H : Hp} {a : Addr} {o u : HO} : upd (upd H a o) a u = upd H a u := by
  funext b; unfold upd; split <;> rfl
/-- two objects of different content stand apart -/
theorem ne_of {H : Hp} {a b : Addr} {o u : HO} (h : H a = some o) (h' : H b = some u) (d : o ≠ u) : a ≠ b := by
  intro e; subst e; rw [h] at h'; exact d (Option.some.inj h')
theorem ne_of_none {H : Hp} {a b : Addr} {o : HO} (h : H a = some o) (h' : H b = none) : a ≠ b := by
  intro e; subst e; rw [h] at h'; cases h'

section
variable (P : Program) (w : World)
def ObjOk (H : Hp) (h : Heap) (a : Addr) : HO → Prop
  | .lst xs => xs.length ≤ sizeLine ∧ ∃ (its : List Value) (n : Nat), Vals xs its ∧ h.get? a = some { cls := .type "list", data := .seq its.toArray n }
  | .tup xs => xs.length ≤ sizeLine ∧ ∃ its : List Value, Vals xs its ∧ IsTup h a its.toArray
  | .dK kvs => kvs.length ≤ sizeLine ∧ (a == sysModules) = false ∧ ∃ vs, KV kvs vs ∧ h.DictOf (mixKind P w) a vs
  | .dT kvs => kvs.length ≤ sizeLine ∧ (a == sysModules) = false ∧ ∃ xs : List (List Key × Addr × Value),
      Paired (fun (p : List Key × V) (q : List Key × Addr × Value) => p.1 = q.1 ∧ H q.2.1 = some (.tup (p.1.map kV)) ∧ RelV p.2 q.2.2) kvs xs ∧
      ∃ o es ep, h.get? a = some o ∧ o.ExactDict ∧ o.data = .dict es ep ∧ es.toList = xs.map (entryOfKey (tupleKind (mixKind P w))) ∧ (xs.map (·.1)).Nodup
  | .set S n => h.SetOf (intKind P w) a S n
  | .ins C dx fs => H dx = some (.own a) ∧ fs.length ≤ 1000 ∧ dx ≠ a ∧ h.get? a = some (PySem.W.instObj C dx) ∧
      ∃ mA, h.Ns1 dx mA ∧ (∀ f, RelO (fs.lookup f) (mA f)) ∧ PySem.Within mA (fs.map (·.1))
  | .own _ => ∃ o, h.get? a = some o
  | .xd fs => ∃ mA, h.Ns1 a mA ∧ ∀ f, RelO (fs.lookup f) (mA f)
  | .rng lo hi => ∃ t u v, h.get? a = some { cls := .type "range", data := .fields #[.int lo t, .int hi u, .int 1 v] }
  | .frz o u => h.get? a = some o ∧ ObjOk H h a u
  | .tbl ps => h.get? a = some { cls := .none, data := .fields ps }
  | .met f x => h.get? a = some (PySem.W.methodObj (.ref f) (.ref x))
  | .ext φ => φ h ∧ (∃ o, h.get? a = some o) ∧ ∀ h1 h2 : Heap, φ h1 → (∀ o, h1.get? a = some o → h2.get? a = some o) → φ h2
/-- the abstract heap is held -/
def HOk (H : Hp) (h : Heap) : Prop := ∀ a o, H a = some o → ObjOk P w H h a o
end

section
variable {P : Program} {w : World} {H H' : Hp} {h h' : Heap} {a : Addr} {o : HO}
theorem ObjOk.lt (x : ObjOk P w H h a o) : a < h.objs.size := by
  cases o with
  | lst xs => obtain ⟨_, _, _, _, e⟩ := x; exact Heap.lt_size e
  | tup xs => obtain ⟨_, _, _, p⟩ := x; exact p.lt
  | dK kvs => obtain ⟨_, _, _, _, o, _, _, e, _⟩ := x; exact Heap.lt_size e
  | dT kvs => obtain ⟨_, _, _, _, o, _, _, e, _⟩ := x; exact Heap.lt_size e
  | set S n => obtain ⟨o, _, _, _, e, _⟩ := x; exact Heap.lt_size e
  | ins C dx fs => obtain ⟨_, _, _, e, _⟩ := x; exact Heap.lt_size e
  | own y => obtain ⟨_, e⟩ := x; exact Heap.lt_size e
  | xd fs => obtain ⟨_, ⟨_, _, _, e, _⟩, _⟩ := x; exact Heap.lt_size e
  | rng lo hi => obtain ⟨_, _, _, e⟩ := x; exact Heap.lt_size e
  | frz ob u => obtain ⟨e, _⟩ := x; exact Heap.lt_size e
  | tbl ps => exact Heap.lt_size (show h.get? a = some _ from x)
  | met f y => exact Heap.lt_size (show h.get? a = some _ from x)
  | ext φ => obtain ⟨_, ⟨_, e⟩, _⟩ := x; exact Heap.lt_size e
theorem Paired.mapP {α β : Type} {F G : α → β → Prop} : ∀ {l₁ : List α} {l₂ : List β}, Paired F l₁ l₂ → (∀ a b, F a b → G a b) → Paired G l₁ l₂
  | _, _, .nil, _ => .nil
  | _, _, .cons r t, f => .cons (f _ _ r) (Paired.mapP t f)
/-- what an object's description leans on: its own object, its own dict, the tuples -/
theorem ObjOk.stay (x : ObjOk P w H h a o) (k : ∀ b u, (b = a ∨ H b = some (.own a)) → h.get? b = some u → h'.get? b = some u)
    (ho : ∀ b, H b = some (.own a) → H' b = some (.own a)) (ht : ∀ b xs, H b = some (.tup xs) → H' b = some (.tup xs)) : ObjOk P w H' h' a o := by
  induction o with
  | lst xs => obtain ⟨z, its, n, r, e⟩ := x; exact ⟨z, its, n, r, k _ _ (.inl rfl) e⟩
  | tup xs => obtain ⟨z, its, r, ob, e, c⟩ := x; exact ⟨z, its, r, ob, k _ _ (.inl rfl) e, c⟩
  | dK kvs => obtain ⟨z, y, vs, r, ob, es, ep, e, c⟩ := x; exact ⟨z, y, vs, r, ob, es, ep, k _ _ (.inl rfl) e, c⟩
  | dT kvs =>
    obtain ⟨z, y, xs, r, ob, es, ep, e, c⟩ := x
    exact ⟨z, y, xs, Paired.mapP r fun p q z => ⟨z.1, ht _ _ z.2.1, z.2.2⟩, ob, es, ep, k _ _ (.inl rfl) e, c⟩
  | set S n => obtain ⟨ob, es, ep, t, e, c⟩ := x; exact ⟨ob, es, ep, t, k _ _ (.inl rfl) e, c⟩
  | ins C dx fs =>
    obtain ⟨d, z, ne, e, mA, ⟨od, es, ep, e2, c⟩, r⟩ := x
    exact ⟨ho _ d, z, ne, k _ _ (.inl rfl) e, mA, ⟨od, es, ep, k _ _ (.inr d) e2, c⟩, r⟩
  | own y => obtain ⟨ob, e⟩ := x; exact ⟨ob, k _ _ (.inl rfl) e⟩
  | xd fs => obtain ⟨mA, ⟨od, es, ep, e, c⟩, r⟩ := x; exact ⟨mA, ⟨od, es, ep, k _ _ (.inl rfl) e, c⟩, r⟩
  | rng lo hi => obtain ⟨t, u, v, e⟩ := x; exact ⟨t, u, v, k _ _ (.inl rfl) e⟩
  | frz ob u ih => obtain ⟨e, q⟩ := x; exact ⟨k _ _ (.inl rfl) e, ih q⟩
  | tbl ps =>
    have e : h.get? a = some { cls := .none, data := .fields ps } := x
    show h'.get? a = some { cls := .none, data := .fields ps }
    exact k a _ (.inl rfl) e
  | met f y =>
    have e : h.get? a = some (PySem.W.methodObj (.ref f) (.ref y)) := x
    show h'.get? a = some (PySem.W.methodObj (.ref f) (.ref y))
    exact k a _ (.inl rfl) e
  | ext φ => obtain ⟨p, ⟨o, e⟩, st⟩ := x; exact ⟨st _ _ p fun o q => k _ _ (.inl rfl) q, ⟨o, k _ _ (.inl rfl) e⟩, st⟩
theorem HOk.lt (x : HOk P w H h) (e : H a = some o) : a < h.objs.size := (x a o e).lt
theorem HOk.fresh (x : HOk P w H h) (e : h.objs.size ≤ a) : H a = none := by
  cases q : H a with
  | none => rfl
  | some u => exact absurd (Nat.lt_of_lt_of_le (x.lt q) e) (Nat.lt_irrefl _)
/-- every object of the heap is kept -/
theorem HOk.kept (x : HOk P w H h) (k : ∀ b u, h.get? b = some u → h'.get? b = some u) : HOk P w H h' := fun a o e =>
  (x a o e).stay (fun b u _ q => k b u q) (fun _ q => q) fun _ _ q => q
/-- a new object is laid and tracked -/
theorem HOk.laid (x : HOk P w H h) (k : ∀ b u, h.get? b = some u → h'.get? b = some u) (hp : h.objs.size ≤ a) (new : ObjOk P w (upd H a o) h' a o) : HOk P w (upd H a o) h' := fun b u e => by
  have hn := x.fresh hp
  by_cases hb : b = a
  · subst hb; rw [upd_same] at e; cases e; exact new
  · rw [upd_ne hb] at e
    exact (x b u e).stay (fun c v _ q => k c v q) (fun c q => by rw [upd_ne (ne_of_none q hn)]; exact q) fun c xs q => by rw [upd_ne (ne_of_none q hn)]; exact q
end

/-- what may be read as u: it is u, or a known u -/
def Rd (H : Hp) (a : Addr) (u : HO) : Prop := H a = some u ∨ ∃ o, H a = some (.frz o u)
theorem Rd.of {H : Hp} {a : Addr} {u : HO} (h : H a = some u) : Rd H a u := .inl h
theorem Rd.ok {P : Program} {w : World} {H : Hp} {h : Heap} {a : Addr} {u : HO} (r : Rd H a u) (x : HOk P w H h) : ObjOk P w H h a u := by
  rcases r with r | ⟨o, r⟩
  · exact x a u r
  · obtain ⟨_, q⟩ := x a _ r
    exact q
/-- what may be written -/
def Mut : Option HO → Prop
  | some (.lst _) => True
  | some (.dK _) => True
  | some (.dT _) => True
  | some (.set _ _) => True
  | some (.ins _ _ _) => True
  | some (.ext _) => True
  | _ => False
section
variable {P : Program} {w : World} {H : Hp} {h h' : Heap} {x e : Addr} {o' : HO}
/-- the object at e is changed: x itself, or the dict of the instance x -/
theorem HOk.write (ok : HOk P w H h) (mu : Mut (H x)) (he : e = x ∨ H e = some (.own x)) (k : ∀ b u, b ≠ e → h.get? b = some u → h'.get? b = some u) (heo : ∃ u, h'.get? e = some u)
    (new : ObjOk P w (upd H x o') h' x o') : HOk P w (upd H x o') h' := fun b u q => by
  have nown : ∀ c y, H c = some (.own y) → c ≠ x := fun c y r z => by subst z; rw [r] at mu; exact mu
  have ntup : ∀ c xs, H c = some (.tup xs) → c ≠ x := fun c xs r z => by subst z; rw [r] at mu; exact mu
  by_cases hb : b = x
  · subst hb; rw [upd_same] at q; cases q; exact new
  · rw [upd_ne hb] at q
    by_cases hbe : b = e
    · have q' : H b = some (.own x) := by
        rcases he with z | z
        · exact absurd (hbe.trans z) hb
        · rw [hbe]; exact z
      rw [q] at q'; cases q'
      obtain ⟨v, hv⟩ := heo
      exact ⟨v, by rw [hbe]; exact hv⟩
    · refine (ok b u q).stay (fun c v hc r => k c v ?_ r) (fun c r => by rw [upd_ne (nown c b r)]; exact r) fun c xs r => by rw [upd_ne (ntup c xs r)]; exact r
      rcases hc with rfl | hc
      · exact hbe
      · rintro rfl
        rcases he with z | z
        · exact nown c b hc z
        · rw [hc] at z; cases z; exact hb rfl
end

/-! ### kept unless tracked; of the frames at fs (the callers') the slots may change (an exception that passes writes there); of the records at ex (iterators) nothing is said -/
structure Un (fs ex : List Addr) (H H' : Hp) (h h' : Heap) : Prop where
  keep : ∀ b o, h.get? b = some o → H b = none → b ∉ fs → b ∉ ex → h'.get? b = some o
  slot : ∀ b o, h.get? b = some o → H b = none → b ∈ fs → b ∉ ex → ∃ sl, h'.get? b = some { o with slots := sl }
  free : ∀ b o, h.get? b = some o → H b = none → b ∉ ex → H' b = none
  there : ∀ b o, h.get? b = some o → b ∉ ex → ∃ o', h'.get? b = some o'
  tups : ∀ b xs, H b = some (.tup xs) → H' b = some (.tup xs)
  frzs : ∀ b o u, H b = some (.frz o u) → H' b = some (.frz o u)
  tbls : ∀ b ps, H b = some (.tbl ps) → ∃ more, H' b = some (.tbl (ps ++ more))
section
variable {fs fs' ex ex' : List Addr} {H H1 H2 : Hp} {h h1 h2 h' : Heap} {a x e : Addr} {o : HO}
theorem Un.any (u : Un fs ex H H1 h h1) {b : Addr} {ob : Obj} (q : h.get? b = some ob) (n : H b = none) (hx : b ∉ ex) : ∃ sl, h1.get? b = some { ob with slots := sl } := by
  by_cases hb : b ∈ fs
  · exact u.slot b ob q n hb hx
  · exact ⟨ob.slots, u.keep b ob q n hb hx⟩
theorem Un.trans (a : Un fs ex H H1 h h1) (b : Un fs ex H1 H2 h1 h2) : Un fs ex H H2 h h2 where
  keep := fun c ob q n hc hx => b.keep c ob (a.keep c ob q n hc hx) (a.free c ob q n hx) hc hx
  slot := fun c ob q n hc hx => by
    obtain ⟨sl, e1⟩ := a.slot c ob q n hc hx
    obtain ⟨sl', e2⟩ := b.slot c _ e1 (a.free c ob q n hx) hc hx
    exact ⟨sl', e2⟩
  free := fun c ob q n hx => by
    obtain ⟨o', e1⟩ := a.there c ob q hx
    exact b.free c o' e1 (a.free c ob q n hx) hx
  there := fun c ob q hx => by
    obtain ⟨o', e1⟩ := a.there c ob q hx
    exact b.there c o' e1 hx
  tups := fun c xs q => b.tups c xs (a.tups c xs q)
  frzs := fun c ob xs q => b.frzs c ob xs (a.frzs c ob xs q)
  tbls := fun c ps q => by
    obtain ⟨m1, e1⟩ := a.tbls c ps q
    obtain ⟨m2, e2⟩ := b.tbls c _ e1
    exact ⟨m1 ++ m2, by rw [e2, Array.append_assoc]⟩
theorem Un.kept (k : ∀ b u, h.get? b = some u → h'.get? b = some u) : Un fs ex H H h h' :=
  ⟨fun b ob q _ _ _ => k b ob q, fun b ob q _ _ _ => ⟨ob.slots, k b ob q⟩, fun _ _ _ n _ => n, fun b ob q _ => ⟨ob, k b ob q⟩, fun _ _ q => q, fun _ _ _ q => q, fun _ ps q => ⟨#[], by rw [q]; simp⟩⟩
theorem Un.refl : Un fs ex H H h h := Un.kept fun _ _ q => q
theorem Un.laid (k : ∀ b u, h.get? b = some u → h'.get? b = some u) (hp : h.objs.size ≤ a) (hn : H a = none) : Un fs ex H (upd H a o) h h' where
  keep := fun b u q _ _ _ => k b u q
  slot := fun b u q _ _ _ => ⟨u.slots, k b u q⟩
  free := fun b u q n _ => by rw [upd_ne (Nat.ne_of_lt (Nat.lt_of_lt_of_le (Heap.lt_size q) hp))]; exact n
  there := fun b u q _ => ⟨u, k b u q⟩
  tups := fun b xs q => by rw [upd_ne (ne_of_none q hn)]; exact q
  frzs := fun b u xs q => by rw [upd_ne (ne_of_none q hn)]; exact q
  tbls := fun b ps q => ⟨#[], by rw [upd_ne (ne_of_none q hn), q]; simp⟩
theorem Un.write (mu : Mut (H x)) (he : e = x ∨ H e = some (.own x)) (k : ∀ b u, b ≠ e → h.get? b = some u → h'.get? b = some u) (heo : ∃ u, h'.get? e = some u) : Un fs ex H (upd H x o) h h' := by
  have hx : ∀ b, H b = none → b ≠ x := fun b n z => by subst z; rw [n] at mu; exact mu
  have hb : ∀ b, H b = none → b ≠ e := fun b n z => by
    subst z
    rcases he with r | r
    · exact hx b n r
    · rw [n] at r; cases r
  have hm : ∀ b u, H b = some u → ¬ Mut (some u) → b ≠ x := fun b u q nm z => by subst z; rw [q] at mu; exact nm mu
  refine ⟨fun b u q n _ _ => k b u (hb b n) q, fun b u q n _ _ => ⟨u.slots, k b u (hb b n) q⟩, fun b u q n _ => by rw [upd_ne (hx b n)]; exact n, fun b u q _ => ?_,
    fun b xs q => by rw [upd_ne (hm b _ q fun z => z)]; exact q, fun b u xs q => by rw [upd_ne (hm b _ q fun z => z)]; exact q, fun b ps q => ⟨#[], by rw [upd_ne (hm b _ q fun z => z), q]; simp⟩⟩
  by_cases hbe : b = e
  · subst hbe; exact heo
  · exact ⟨u, k b u hbe q⟩
theorem Un.mono (u : Un fs ex H H1 h h1) (hs : ∀ b ∈ fs, b ∈ fs') (hx : ∀ b ∈ ex, b ∈ ex') : Un fs' ex' H H1 h h1 :=
  ⟨fun b ob q n hb he => u.keep b ob q n (fun z => hb (hs b z)) fun z => he (hx b z), fun _ _ q n _ he => u.any q n fun z => he (hx _ z), fun b ob q n he => u.free b ob q n fun z => he (hx b z), fun b ob q he => u.there b ob q fun z => he (hx b z), u.tups, u.frzs, u.tbls⟩
end

/-! ### the heap without what is tracked -/
def trk (h : Heap) (H : Hp) : List Addr := (List.range h.objs.size).filter fun a => (H a).isSome
def hidT (h : Heap) (H : Hp) : Heap := PySem.W.hideAll h (trk h H)
theorem hidT_size (h : Heap) (H : Hp) : (hidT h H).objs.size = h.objs.size := PySem.W.hideAll_size _ _
theorem hidT_get {h : Heap} {H : Hp} {b : Addr} {o : Obj} (e : h.get? b = some o) (n : H b = none) : (hidT h H).get? b = some o :=
  PySem.W.hideAll_get _ e fun hm => by
    have q : (H b).isSome = true := (List.mem_filter.mp hm).2
    rw [n] at q; simp at q
theorem of_hidT {h : Heap} {H : Hp} {b : Addr} {o : Obj} (e : (hidT h H).get? b = some o) : h.get? b = some o ∧ H b = none := by
  have e' : h.get? b = some o := PySem.W.of_hideAll (trk h H) e
  refine ⟨e', ?_⟩
  cases q : H b with
  | none => rfl
  | some x =>
    have hm : b ∈ trk h H := List.mem_filter.mpr ⟨List.mem_range.mpr (Heap.lt_size e'), by simp [q]⟩
    have z : (hidT h H).get? b = none := PySem.W.hideAll_none (trk h H) hm
    rw [z] at e; cases e

/-! ### OpenK's ledger, filled with every new object but one -/
def allNews (g h : Heap) (L : Addr) : List (Addr × Obj) := (List.range h.objs.size).filterMap fun a => if a = L ∨ (g.get? a).isSome = true then none else (h.get? a).map fun o => (a, o)
def rest (g h : Heap) (L d : Addr) : List (Addr × Obj) := (allNews g h L).filter fun p => decide (p.1 ≠ d)
end L2

namespace L2
open PySem PySem.Spec PyProof.Rows

/-- the module's facts, over the base: the heap at the law's entry without what is tracked there -/
structure Mod (K : PySem.W.Frag) (mg : Str → Option Value) (base : Heap) : Prop where
  kin : K.In base
  glob : base.Ns mainGlobals mg
  blt : ∃ mb, base.Ns builtinsNs mb ∧ ∀ x : Str, x ≠ "__name__" → mb x = bootBuiltins x
  nolimit : base.NoLimit

/-- the context: a def's body (or a comprehension's block) running. base: fixed through the whole law; s₀, H₀: the entry; outer: the frames whose slots others may change (a def's callers); stack: all frames that run;
   ex: iterators that were made ahead of the entry and are walked here (a comprehension's); fn: the names whose cells were made at the entry (a def: all; a comprehension's block: its own); calm: not within an except suite; pn: pins that every state bears; xe: what is wanted of an exception that leaves the code -/
structure Cx where
  prog : Program
  w : World
  K : PySem.W.Frag
  mg : Str → Option Value
  base : Heap
  A : Around
  N : List Str
  s_0 : Shared
  H_0 : Hp
  env : Env
  outer : List Env
  stack : List Env
  ex : List Addr
  fn : Str → Bool
  calm : Bool
  pn : List (Addr × Obj)
  xe : Value → Shared → Prop
/-- the callers' frames -/
def frs (l : List Env) : List Addr := l.filterMap (·.frame)
abbrev Cx.fs (X : Cx) : List Addr := frs X.outer

def Vis (sc : Scope) (x : Str) : Prop := sc.names.lookup x = some .local ∨ sc.names.lookup x = some .cell ∨ sc.names.lookup x = some .free
def Loc (sc : Scope) (x : Str) : Prop := sc.names.lookup x = some .local ∨ sc.names.lookup x = some .cell
def Look (env : Env) (h : Heap) (m : Str → Option Value) (x : Str) (u : Value) : Prop :=
  (env.kindOf x = some .local ∧ m x = some u) ∨ ((env.kindOf x = some .cell ∨ env.kindOf x = some .free) ∧ ∃ c, env.cells.lookup x = some c ∧ h.IsCell c (some u))

structure Cx.Ok (X : Cx) : Prop where
  mod : Mod X.K X.mg X.base
  kind : X.env.scope.kind = .function
  glob : X.env.globals = mainGlobals
  blt : X.env.builtins = builtinsNs
  above : X.s_0.heap.objs.size ≤ X.env.locals
  inj : ∀ x y c, X.env.cells.lookup x = some c → X.env.cells.lookup y = some c → x = y
  has : ∀ x, (X.env.kindOf x = some .cell ∨ X.env.kindOf x = some .free) → ∃ c, X.env.cells.lookup x = some c
  cab : ∀ x c, X.fn x = true → X.env.cells.lookup x = some c → X.s_0.heap.objs.size ≤ c
  hd : X.calm = true → X.A.handled = none
  frames : X.A.frames = some X.stack
  stk : X.stack = X.outer ∨ (X.stack = X.env :: X.outer ∧ X.env.frame = some X.env.locals)
  exf : ∀ b ∈ X.ex, b ≠ X.env.locals ∧ ∀ x c, X.env.cells.lookup x = some c → c ≠ b
  bs : ∀ b o, X.base.get? b = some o → X.s_0.heap.get? b = some o ∧ X.H_0 b = none
  bsz : X.base.objs.size ≤ X.s_0.heap.objs.size
  noex : ∀ b o, X.base.get? b = some o → b ∉ X.ex
  exfs : ∀ b ∈ X.ex, b ∉ X.fs
  funs : X.s_0.heap.FunFrames X.base X.outer
  frf : ∀ b ∈ X.fs, X.H_0 b = none

structure Inv (X : Cx) (pins : List (Addr × Obj)) (σ : List (Option V)) (H : Hp) (s : Shared) : Prop where
  ok : X.Ok
  os : s.os = X.s_0.os
  bare : AllBare s.gens
  base : Un X.fs X.ex X.H_0 H X.s_0.heap s.heap
  loc : ∃ m, s.heap.Ns X.env.locals m ∧ ∀ (i : Nat) (x : Str) (v : V), X.N[i]? = some x → σ[i]? = some (some v) → Vis X.env.scope x → ∃ u, RelV v u ∧ Look X.env s.heap m x u
  cell : ∀ x c, X.env.cells.lookup x = some c → ∃ v, s.heap.IsCell c v
  free : H X.env.locals = none
  freeC : ∀ x c, X.env.cells.lookup x = some c → H c = none
  pin : ∀ p ∈ X.pn ++ pins, s.heap.get? p.1 = some p.2 ∧ H p.1 = none ∧ p.1 ≠ X.env.locals ∧ p.1 ∉ X.fs ∧ ∀ v, p.2.data ≠ .cell v
  hok : HOk X.prog X.w H s.heap
  len : σ.length = X.N.length

section
variable {X : Cx} {pins : List (Addr × Obj)} {σ : List (Option V)} {H H' : Hp} {s : Shared} {h' : Heap}

theorem Cx.Ok.nofr (ok : X.Ok) {b : Addr} {o : Obj} (e : X.base.get? b = some o) : b ∉ X.fs := fun hb => by
  have := (ok.funs.mem hb).1
  rw [e] at this; cases this
theorem Inv.bs (I : Inv X pins σ H s) : ∀ b o, X.base.get? b = some o → s.heap.get? b = some o ∧ H b = none := fun b o e =>
  ⟨I.base.keep b o (I.ok.bs b o e).1 (I.ok.bs b o e).2 (I.ok.nofr e) (I.ok.noex b o e), I.base.free b o (I.ok.bs b o e).1 (I.ok.bs b o e).2 (I.ok.noex b o e)⟩
theorem Inv.bk (I : Inv X pins σ H s) : ∀ b o, X.base.get? b = some o → s.heap.get? b = some o := fun b o e => (I.bs b o e).1
theorem Inv.mod (I : Inv X pins σ H s) : Mod X.K X.mg X.base := I.ok.mod
theorem Inv.kIn (I : Inv X pins σ H s) : X.K.In s.heap := I.ok.mod.kin.keeps I.bk
theorem Inv.nolimit (I : Inv X pins σ H s) : s.heap.NoLimit := I.ok.mod.nolimit.keeps I.bk
/-- the frame over the base: for OpenK's rules (K.In X.base is I.mod.kin) -/
theorem Inv.fr (I : Inv X pins σ H s) : ∃ m, Fr X.base X.env.locals s.heap m :=
  let ⟨m, hn, _⟩ := I.loc
  ⟨m, hn, I.bk, Nat.le_trans I.ok.bsz I.ok.above⟩
theorem Inv.lt (I : Inv X pins σ H s) : X.env.locals < s.heap.objs.size := let ⟨_, hn, _⟩ := I.loc; hn.lt
theorem Inv.sz (I : Inv X pins σ H s) : X.s_0.heap.objs.size ≤ s.heap.objs.size := Nat.le_trans I.ok.above (Nat.le_of_lt I.lt)
theorem Inv.nofs (I : Inv X pins σ H s) {a : Addr} (h : s.heap.objs.size ≤ a) : a ∉ X.fs := fun hb => by
  obtain ⟨_, o, ho, _⟩ := I.ok.funs.mem hb
  exact absurd (Nat.lt_of_lt_of_le (Heap.lt_size ho) (Nat.le_trans I.sz h)) (Nat.lt_irrefl _)
theorem Inv.cne (I : Inv X pins σ H s) : ∀ x c, X.env.cells.lookup x = some c → c ≠ X.env.locals := fun x c e z => by
  obtain ⟨v, o, ho, hd⟩ := I.cell x c e
  obtain ⟨m, ⟨o', es, ep, ho', hd', _⟩, _⟩ := I.loc
  rw [z, ho'] at ho; cases ho; rw [hd'] at hd; cases hd
theorem Inv.funs (I : Inv X pins σ H s) : s.heap.FunFrames X.base X.outer := by
  have all : ∀ (l : List Env), (∀ b ∈ frs l, b ∈ X.fs) → X.s_0.heap.FunFrames X.base l → s.heap.FunFrames X.base l := by
    intro l
    induction l with
    | nil => intro _ _; trivial
    | cons env r ih =>
      intro hs hl
      obtain ⟨hk, ⟨L, o, hf, hn, ho, hd⟩, hr⟩ := hl
      have hL : L ∈ X.fs := hs L (by unfold frs; rw [List.filterMap_cons, hf]; exact List.mem_cons_self)
      obtain ⟨sl, e⟩ := I.base.slot L o ho (I.ok.frf L hL) hL fun z => I.ok.exfs L z hL
      exact ⟨hk, ⟨L, _, hf, hn, e, hd⟩, ih (fun b hb => hs b (by unfold frs; rw [List.filterMap_cons, hf]; exact List.mem_cons_of_mem _ hb)) hr⟩
  exact all X.outer (fun _ hb => hb) I.ok.funs

/-- the frames that run, for a call -/
theorem Inv.stack (I : Inv X pins σ H s) : s.heap.FunFrames X.base X.stack := by
  rcases I.ok.stk with e | ⟨e, hf⟩
  · rw [e]; exact I.funs
  · rw [e]
    obtain ⟨m, hn, _⟩ := I.loc
    refine .cons (by rw [I.ok.kind]; decide) hf hn ?_ I.funs
    exact Heap.get?_none_of_le (Nat.le_trans I.ok.bsz I.ok.above)
theorem Inv.stkSub (I : Inv X pins σ H s) : ∀ b ∈ frs X.stack, b ∈ X.env.locals :: X.fs := fun b hb => by
  rcases I.ok.stk with e | ⟨e, hf⟩
  · rw [e] at hb; exact List.mem_cons_of_mem _ hb
  · rw [e] at hb
    unfold frs at hb
    rw [List.filterMap_cons, hf] at hb
    exact hb
theorem Inv.stkFree (I : Inv X pins σ H s) : ∀ b ∈ frs X.stack, H b = none := fun b hb => by
  rcases List.mem_cons.mp (I.stkSub b hb) with e | hb
  · rw [e]; exact I.free
  · obtain ⟨_, o, ho, _⟩ := I.ok.funs.mem hb
    exact I.base.free b o ho (I.ok.frf b hb) fun z => I.ok.exfs b z hb

/-- THE STEP: the untracked objects but the frame and the records at ch are kept (the callers' frames up to slots), the frame's map is kept, the new abstract heap is held -/
theorem Inv.step {g' : Array GenState} {t' : Nat} {d' : Drawn} {ch : List Addr} (I : Inv X pins σ H s)
    (hch : ∀ b ∈ ch, (b ∈ X.ex ∨ X.s_0.heap.objs.size ≤ b) ∧ b ≠ X.env.locals ∧ (∀ x c, X.env.cells.lookup x = some c → c ≠ b) ∧ ∀ p ∈ X.pn ++ pins, p.1 ≠ b)
    (keep : ∀ b o, b ≠ X.env.locals → b ∉ X.fs → b ∉ ch → s.heap.get? b = some o → H b = none → h'.get? b = some o)
    (slot : ∀ b o, b ≠ X.env.locals → b ∈ X.fs → b ∉ ch → s.heap.get? b = some o → H b = none → ∃ sl, h'.get? b = some { o with slots := sl }) (free : ∀ b o, b ∉ ch → s.heap.get? b = some o → H b = none → H' b = none)
    (there : ∀ b o, b ∉ ch → s.heap.get? b = some o → ∃ o', h'.get? b = some o')
    (tups : ∀ b xs, H b = some (.tup xs) → H' b = some (.tup xs)) (frzs : ∀ b o u, H b = some (.frz o u) → H' b = some (.frz o u)) (tbls : ∀ b ps, H b = some (.tbl ps) → ∃ more, H' b = some (.tbl (ps ++ more)))
    (ns : ∀ m, s.heap.Ns X.env.locals m → h'.Ns X.env.locals m) (hok : HOk X.prog X.w H' h') (hg : AllBare g') :
    Inv X pins σ H' { s with heap := h', gens := g', drawn := d', toks := t' } := by
  have neL : ∀ b o, X.s_0.heap.get? b = some o → b ≠ X.env.locals := fun b o e => Nat.ne_of_lt (Nat.lt_of_lt_of_le (Heap.lt_size e) I.ok.above)
  have neC : ∀ b o, X.s_0.heap.get? b = some o → b ∉ X.ex → b ∉ ch := fun b o e hx hb => by
    rcases (hch b hb).1 with z | z
    · exact hx z
    · exact absurd (Nat.lt_of_lt_of_le (Heap.lt_size e) z) (Nat.lt_irrefl _)
  have cellK : ∀ x c, X.env.cells.lookup x = some c → ∀ v, s.heap.IsCell c v → h'.IsCell c v := fun x c e v ⟨o, ho, hd⟩ => by
    have nch : c ∉ ch := fun z => (hch c z).2.2.1 x c e rfl
    by_cases hc : c ∈ X.fs
    · obtain ⟨sl, q⟩ := slot c o (I.cne x c e) hc nch ho (I.freeC x c e)
      exact ⟨_, q, hd⟩
    · exact ⟨o, keep c o (I.cne x c e) hc nch ho (I.freeC x c e), hd⟩
  refine ⟨I.ok, I.os, hg, ⟨fun b o e n hb hx => ?_, fun b o e n hb hx => ?_, fun b o e n hx => ?_, fun b o e hx => ?_, fun b xs e => tups b xs (I.base.tups b xs e), fun b o xs e => frzs b o xs (I.base.frzs b o xs e), fun b ps e => ?_⟩, ?_, fun x c e => ?_, ?_, fun x c e => ?_, fun p hp => ?_, hok, I.len⟩
  · exact keep b o (neL b o e) hb (neC b o e hx) (I.base.keep b o e n hb hx) (I.base.free b o e n hx)
  · obtain ⟨sl, e1⟩ := I.base.slot b o e n hb hx
    obtain ⟨sl', e2⟩ := slot b _ (neL b o e) hb (neC b o e hx) e1 (I.base.free b o e n hx)
    exact ⟨sl', e2⟩
  · obtain ⟨o', e1⟩ := I.base.there b o e hx
    exact free b o' (neC b o e hx) e1 (I.base.free b o e n hx)
  · obtain ⟨o', e1⟩ := I.base.there b o e hx
    exact there b o' (neC b o e hx) e1
  · obtain ⟨m1, e1⟩ := I.base.tbls b ps e
    obtain ⟨m2, e2⟩ := tbls b _ e1
    exact ⟨m1 ++ m2, by rw [e2, Array.append_assoc]⟩
  · obtain ⟨m, hn, hl⟩ := I.loc
    refine ⟨m, ns m hn, fun i x v e1 e2 e3 => ?_⟩
    obtain ⟨u, r, l⟩ := hl i x v e1 e2 e3
    refine ⟨u, r, ?_⟩
    rcases l with l | ⟨k, c, e, z⟩
    · exact .inl l
    · exact .inr ⟨k, c, e, cellK x c e _ z⟩
  · obtain ⟨v, z⟩ := I.cell x c e
    exact ⟨v, cellK x c e v z⟩
  · obtain ⟨m, ⟨o, _, _, ho, _⟩, _⟩ := I.loc
    exact free _ o (fun z => (hch _ z).2.1 rfl) ho I.free
  · obtain ⟨v, o, ho, hd⟩ := I.cell x c e
    exact free c o (fun z => (hch c z).2.2.1 x c e rfl) ho (I.freeC x c e)
  · obtain ⟨e, n, ne, nf, d⟩ := I.pin p hp
    have nch : p.1 ∉ ch := fun z => (hch p.1 z).2.2.2 p hp rfl
    exact ⟨keep p.1 p.2 ne nf nch e n, free p.1 p.2 nch e n, ne, nf, d⟩
/-- .. where the frame's own object is kept too -/
theorem Inv.un {t' : Nat} (I : Inv X pins σ H s) (u : Un X.fs [] H H' s.heap h') (hok : HOk X.prog X.w H' h') : Inv X pins σ H' { s with heap := h', toks := t' } := by
  obtain ⟨m, ⟨o, es, ep, ho, r⟩, _⟩ := id I.loc
  obtain ⟨sl, hL⟩ := u.any ho I.free (by simp)
  exact I.step (g' := s.gens) (d' := s.drawn) (ch := []) (fun _ z => nomatch z) (fun b o _ hb _ e n => u.keep b o e n hb (by simp)) (fun b o _ hb _ e n => u.slot b o e n hb (by simp)) (fun b o _ e n => u.free b o e n (by simp)) (fun b o _ e => u.there b o e (by simp)) u.tups u.frzs u.tbls (fun m' hm => by
    obtain ⟨o', es', ep', ho', r'⟩ := hm
    rw [ho] at ho'; cases ho'
    exact ⟨_, es', ep', hL, r'⟩) hok I.bare
/-- behind a call (or a comprehension's block): the slots of this frame may have changed too, the records at ch may have turned -/
theorem Inv.call {g' : Array GenState} {t' : Nat} {d' : Drawn} {ch : List Addr} (I : Inv X pins σ H s) (u : Un (frs X.stack) ch H H' s.heap h') (hok : HOk X.prog X.w H' h') (hg : AllBare g')
    (hch : ∀ b ∈ ch, (b ∈ X.ex ∨ X.s_0.heap.objs.size ≤ b) ∧ b ≠ X.env.locals ∧ (∀ x c, X.env.cells.lookup x = some c → c ≠ b) ∧ ∀ p ∈ X.pn ++ pins, p.1 ≠ b) :
    Inv X pins σ H' { s with heap := h', gens := g', drawn := d', toks := t' } := by
  obtain ⟨m, ⟨o, es, ep, ho, r⟩, _⟩ := id I.loc
  obtain ⟨sl, hL⟩ := u.any ho I.free fun z => (hch _ z).2.1 rfl
  exact I.step (ch := ch) hch (fun b o hL hb hc e n => u.keep b o e n (fun z => (List.mem_cons.mp (I.stkSub b z)).elim hL hb) hc) (fun b o _ _ hc e n => u.any e n hc) (fun b o hc e n => u.free b o e n hc) (fun b o hc e => u.there b o e hc) u.tups u.frzs u.tbls (fun m' hm => by
    obtain ⟨o', es', ep', ho', r'⟩ := hm
    rw [ho] at ho'; cases ho'
    exact ⟨_, es', ep', hL, r'⟩) hok hg
/-- an untracked record of ours (an iterator) has turned -/
theorem Inv.turned {t' : Nat} {it : Addr} (I : Inv X pins σ H s) (k : ∀ b o, b ≠ it → s.heap.get? b = some o → h'.get? b = some o) (hn : H it = none) (hL : it ≠ X.env.locals)
    (h1 : it ∈ X.ex ∨ X.s_0.heap.objs.size ≤ it) (h2 : ∀ x c, X.env.cells.lookup x = some c → c ≠ it) (h3 : ∀ p ∈ X.pn ++ pins, p.1 ≠ it) : Inv X pins σ H { s with heap := h', toks := t' } := by
  have nit : ∀ b u, H b = some u → b ≠ it := fun b u e z => by rw [z, hn] at e; cases e
  refine I.step (g' := s.gens) (d' := s.drawn) (ch := [it]) (fun b hb => ?_) (fun b o _ _ hc e _ => k b o (fun z => hc (by simp [z])) e) (fun b o _ _ hc e _ => ⟨o.slots, k b o (fun z => hc (by simp [z])) e⟩) (fun _ _ _ _ n => n)
    (fun b o hc e => ⟨o, k b o (fun z => hc (by simp [z])) e⟩) (fun _ _ e => e) (fun _ _ _ e => e) (fun b ps e => ⟨#[], by rw [e]; simp⟩) (fun m hm => ?_) (fun b u e => ?_) I.bare
  · have e : b = it := by simpa using hb
    subst e
    exact ⟨h1, hL, h2, h3⟩
  · obtain ⟨o, es, ep, ho, r⟩ := hm
    exact ⟨o, es, ep, k _ o (Ne.symm hL) ho, r⟩
  · refine (I.hok b u e).stay (fun c v hc q => k c v ?_ q) (fun _ q => q) fun _ _ q => q
    rcases hc with z | z
    · rw [z]; exact nit b u e
    · exact nit c _ z
theorem Inv.tok (I : Inv X pins σ H s) (t : Nat) : Inv X pins σ H { s with toks := t } := I.un (h' := s.heap) (t' := t) Un.refl I.hok
/-- all objects kept -/
theorem Inv.kept {t' : Nat} (I : Inv X pins σ H s) (k : ∀ b u, s.heap.get? b = some u → h'.get? b = some u) : Inv X pins σ H { s with heap := h', toks := t' } := I.un (Un.kept k) (I.hok.kept k)
/-- a new object laid and tracked -/
theorem Inv.laid {a : Addr} {o : HO} {t' : Nat} (I : Inv X pins σ H s) (k : ∀ b u, s.heap.get? b = some u → h'.get? b = some u) (hp : s.heap.objs.size ≤ a) (new : ObjOk X.prog X.w (upd H a o) h' a o) :
    Inv X pins σ (upd H a o) { s with heap := h', toks := t' } := I.un (Un.laid k hp (I.hok.fresh hp)) (I.hok.laid k hp new)
/-- an object written -/
theorem Inv.write {x e : Addr} {o : HO} {t' : Nat} (I : Inv X pins σ H s) (mu : Mut (H x)) (he : e = x ∨ H e = some (.own x)) (k : ∀ b u, b ≠ e → s.heap.get? b = some u → h'.get? b = some u) (heo : ∃ u, h'.get? e = some u)
    (new : ObjOk X.prog X.w (upd H x o) h' x o) : Inv X pins σ (upd H x o) { s with heap := h', toks := t' } := I.un (Un.write mu he k heo) (I.hok.write mu he k heo new)
/-- forgetting slots, pins -/
theorem Inv.weak {σ' : List (Option V)} (I : Inv X pins σ H s) (hl : σ'.length = σ.length) (w : ∀ (i : Nat) v, σ'[i]? = some (some v) → σ[i]? = some (some v)) : Inv X pins σ' H s :=
  ⟨I.ok, I.os, I.bare, I.base, let ⟨m, hn, hl'⟩ := I.loc; ⟨m, hn, fun i x v e1 e2 e3 => hl' i x v e1 (w i v e2) e3⟩, I.cell, I.free, I.freeC, I.pin, I.hok, hl.trans I.len⟩
theorem Inv.pins_of {pins' : List (Addr × Obj)} (I : Inv X pins σ H s) (h : ∀ p ∈ pins', s.heap.get? p.1 = some p.2 ∧ H p.1 = none ∧ p.1 ≠ X.env.locals ∧ p.1 ∉ X.fs ∧ ∀ v, p.2.data ≠ .cell v) : Inv X pins' σ H s :=
  ⟨I.ok, I.os, I.bare, I.base, I.loc, I.cell, I.free, I.freeC, fun p hp => (List.mem_append.mp hp).elim (fun z => I.pin p (List.mem_append_left _ z)) (h p), I.hok, I.len⟩

theorem nodup_ix {N : List Str} (hN : N.Nodup) {i j : Nat} {x : Str} (a : N[i]? = some x) (b : N[j]? = some x) : i = j := by
  obtain ⟨h1, e1⟩ := List.getElem?_eq_some_iff.mp a
  obtain ⟨h2, e2⟩ := List.getElem?_eq_some_iff.mp b
  exact (List.getElem_inj hN).mp (e1.trans e2.symm)

/-- a name is stored; what changed -/
theorem store_ok2 {M : Model} {A : Around} {E : Value → Shared → Prop} {i : Nat} {x : Str} {v : V} {u : Value} {Q : Unit → Shared → Prop} (I : Inv X pins σ H s) (hN : X.N.Nodup) (hi : X.N[i]? = some x) (hx : Loc X.env.scope x) (r : RelV v u)
    (h : ∀ s', Inv X pins (σ.set i (some v)) H s' → (∃ a, Heap.SameBut a s.heap s'.heap ∧ (a = X.env.locals ∨ X.env.cells.lookup x = some a)) → Q () s') (hf : X.fn x = true ∨ X.env.scope.names.lookup x = some .local := by first | exact .inl rfl | exact .inr rfl | assumption) : wpAny M A (storeName X.env x u) Q E s := by
  obtain ⟨m, hn, hl⟩ := id I.loc
  have hcls : (X.env.scope.kind == .class || (X.env.scope.kind == .module && X.env.locals != X.env.globals)) = false := by rw [I.ok.kind]; rfl
  have hiσ : i < σ.length := by rw [I.len]; exact (List.getElem?_eq_some_iff.mp hi).1
  have cne := I.cne
  have tracked : ∀ {a : Addr} {h' : Heap}, (∃ o, s.heap.get? a = some o ∧ H a = none) → Heap.SameBut a s.heap h' → HOk X.prog X.w H h' := fun {a h'} ha hs b ob e => by
    obtain ⟨_, _, hfree⟩ := ha
    refine (I.hok b ob e).stay (fun c w' hc q => (hs.2 c ?_).trans q) (fun _ q => q) fun _ _ q => q
    rintro rfl
    rcases hc with rfl | hc
    · rw [hfree] at e; cases e
    · rw [hfree] at hc; cases hc
  rcases hx with hk | hk
  · refine wpAny_storeName_local hk hn (fun h' hn' hs => ?_) hcls
    obtain ⟨oL, _, _, hoL, _⟩ := id hn
    refine h _ ⟨I.ok, I.os, I.bare, ⟨fun b o e n hb hx => ?_, fun b o e n hb hx => ?_, I.base.free, fun b o e hx => ?_, I.base.tups, I.base.frzs, I.base.tbls⟩, ⟨_, hn', fun j y v' e1 e2 e3 => ?_⟩, fun y c e => ?_, I.free, I.freeC, fun p hp => ?_, tracked ⟨oL, hoL, I.free⟩ hs, by simpa using I.len⟩ ⟨_, hs, .inl rfl⟩
    · exact (hs.2 b (Nat.ne_of_lt (Nat.lt_of_lt_of_le (Heap.lt_size e) I.ok.above))).trans (I.base.keep b o e n hb hx)
    · obtain ⟨sl, e1⟩ := I.base.slot b o e n hb hx
      exact ⟨sl, (hs.2 b (Nat.ne_of_lt (Nat.lt_of_lt_of_le (Heap.lt_size e) I.ok.above))).trans e1⟩
    · obtain ⟨o', e1⟩ := I.base.there b o e hx
      exact ⟨o', (hs.2 b (Nat.ne_of_lt (Nat.lt_of_lt_of_le (Heap.lt_size e) I.ok.above))).trans e1⟩
    · by_cases hj : j = i
      · subst hj
        rw [hi] at e1; cases e1
        rw [List.getElem?_set_self hiσ] at e2
        cases e2
        exact ⟨u, r, .inl ⟨hk, by simp⟩⟩
      · rw [List.getElem?_set_ne (Ne.symm hj)] at e2
        obtain ⟨u', r', q⟩ := hl j y v' e1 e2 e3
        refine ⟨u', r', ?_⟩
        rcases q with ⟨k, e⟩ | ⟨k, c, e, z⟩
        · refine .inl ⟨k, ?_⟩
          have : y ≠ x := fun e => hj (nodup_ix hN e1 (e ▸ hi))
          simp [this, e]
        · exact .inr ⟨k, c, e, z.sameBut hs (cne y c e)⟩
    · obtain ⟨w', z⟩ := I.cell y c e
      exact ⟨w', z.sameBut hs (cne y c e)⟩
    · obtain ⟨e, n, ne, nf, d⟩ := I.pin p hp
      exact ⟨(hs.2 p.1 ne).trans e, n, ne, nf, d⟩
  · have hfn : X.fn x = true := by
      rcases hf with z | z
      · exact z
      · rw [z] at hk; cases hk
    obtain ⟨c, hc⟩ := I.ok.has x (.inl hk)
    obtain ⟨w', z⟩ := I.cell x c hc
    refine wpAny_storeName_cell I.ok.kind hk hc z (fun h' hc' hs => ?_)
    obtain ⟨oc, hoc, hocd⟩ := id z
    refine h { s with heap := h' } ⟨I.ok, I.os, I.bare, ⟨fun b o e n hb hx => ?_, fun b o e n hb hx => ?_, I.base.free, fun b o e hx => ?_, I.base.tups, I.base.frzs, I.base.tbls⟩, ⟨m, hn.sameBut hs (Ne.symm (cne x c hc)), fun j y v' e1 e2 e3 => ?_⟩, fun y c' e => ?_, I.free, I.freeC, fun p hp => ?_, tracked ⟨oc, hoc, I.freeC x c hc⟩ hs, by simpa using I.len⟩ ⟨c, hs, .inr hc⟩
    · exact (hs.2 b (Nat.ne_of_lt (Nat.lt_of_lt_of_le (Heap.lt_size e) (I.ok.cab x c hfn hc)))).trans (I.base.keep b o e n hb hx)
    · obtain ⟨sl, e1⟩ := I.base.slot b o e n hb hx
      exact ⟨sl, (hs.2 b (Nat.ne_of_lt (Nat.lt_of_lt_of_le (Heap.lt_size e) (I.ok.cab x c hfn hc)))).trans e1⟩
    · obtain ⟨o', e1⟩ := I.base.there b o e hx
      exact ⟨o', (hs.2 b (Nat.ne_of_lt (Nat.lt_of_lt_of_le (Heap.lt_size e) (I.ok.cab x c hfn hc)))).trans e1⟩
    · by_cases hj : j = i
      · subst hj
        rw [hi] at e1; cases e1
        rw [List.getElem?_set_self hiσ] at e2
        cases e2
        exact ⟨u, r, .inr ⟨.inl hk, c, hc, hc'⟩⟩
      · rw [List.getElem?_set_ne (Ne.symm hj)] at e2
        obtain ⟨u', r', q⟩ := hl j y v' e1 e2 e3
        refine ⟨u', r', ?_⟩
        rcases q with q | ⟨k, c', e, z'⟩
        · exact .inl q
        · refine .inr ⟨k, c', e, z'.sameBut hs ?_⟩
          rintro rfl
          exact hj (nodup_ix hN e1 (I.ok.inj _ _ _ e hc ▸ hi))
    · by_cases hcc : c' = c
      · subst hcc; exact ⟨_, hc'⟩
      · obtain ⟨w2, z2⟩ := I.cell y c' e
        exact ⟨w2, z2.sameBut hs hcc⟩
    · obtain ⟨e, n, ne, nf, d⟩ := I.pin p hp
      refine ⟨(hs.2 p.1 ?_).trans e, n, ne, nf, d⟩
      intro q
      rw [q, hoc] at e
      have q' : oc = p.2 := Option.some.inj e
      exact d w' (by rw [← q']; exact hocd)
theorem store_ok {M : Model} {A : Around} {E : Value → Shared → Prop} {i : Nat} {x : Str} {v : V} {u : Value} {Q : Unit → Shared → Prop} (I : Inv X pins σ H s) (hN : X.N.Nodup) (hi : X.N[i]? = some x) (hx : Loc X.env.scope x) (r : RelV v u)
    (h : ∀ s', Inv X pins (σ.set i (some v)) H s' → Q () s') (hf : X.fn x = true ∨ X.env.scope.names.lookup x = some .local := by first | exact .inl rfl | exact .inr rfl | assumption) : wpAny M A (storeName X.env x u) Q E s :=
  store_ok2 I hN hi hx r (fun s' I' _ => h s' I') hf
/-- behind a call or a block, the state as it is -/
theorem Inv.call' {s' : Shared} {ch : List Addr} (I : Inv X pins σ H s) (ho : s'.os = s.os) (u : Un (frs X.stack) ch H H' s.heap s'.heap) (hok : HOk X.prog X.w H' s'.heap) (hg : AllBare s'.gens)
    (hch : ∀ b ∈ ch, (b ∈ X.ex ∨ X.s_0.heap.objs.size ≤ b) ∧ b ≠ X.env.locals ∧ (∀ x c, X.env.cells.lookup x = some c → c ≠ b) ∧ ∀ p ∈ X.pn ++ pins, p.1 ≠ b) : Inv X pins σ H' s' := by
  obtain ⟨h', g', d', t', o'⟩ := s'
  have e : o' = s.os := ho
  subst e
  exact I.call (g' := g') (t' := t') (d' := d') u hok hg hch
end

/-! ### the judgements -/
/-- an exception: its class, its own dict's address (where it has one), the abstract heap behind it -/
abbrev XK := Value → Option Addr → Hp → Prop
abbrev St := List (Option V)
abbrev VK := V → Hp → Prop
/-- an expression's reading; a test's; an argument list's -/
abbrev TE := St → Hp → VK → Prop
abbrev TT := St → Hp → (Bool → Hp → Prop) → Prop
abbrev TA := St → Hp → (List V → Hp → Prop) → Prop
/-- what is wanted behind a statement -/
structure Ends where
  nx : St → Hp → Prop
  rt : VK
  bk : St → Hp → Prop := fun _ _ => False
  ct : St → Hp → Prop := fun _ _ => False
abbrev TS := Ends → St → Hp → Prop

def EP (X : Cx) (pins : List (Addr × Obj)) (σ : St) (Q : VK) (u : Value) (s' : Shared) : Prop := ∃ v H', Inv X pins σ H' s' ∧ RelV v u ∧ Q v H'
def TP (X : Cx) (pins : List (Addr × Obj)) (σ : St) (Q : Bool → Hp → Prop) (b : Bool) (s' : Shared) : Prop := ∃ H', Inv X pins σ H' s' ∧ Q b H'
def AP (X : Cx) (pins : List (Addr × Obj)) (σ : St) (Q : List V → Hp → Prop) (us : List Value) (s' : Shared) : Prop := ∃ vs H', Inv X pins σ H' s' ∧ Vals vs us ∧ Q vs H'
def SP (X : Cx) (pins : List (Addr × Obj)) (D : Ends) (f : Flow) (s' : Shared) : Prop :=
  match f with
  | .next => ∃ σ' H', Inv X pins σ' H' s' ∧ D.nx σ' H'
  | .brk => ∃ σ' H', Inv X pins σ' H' s' ∧ D.bk σ' H'
  | .cont => ∃ σ' H', Inv X pins σ' H' s' ∧ D.ct σ' H'
  | .ret u => ∃ v σ' H', Inv X pins σ' H' s' ∧ RelV v u ∧ D.rt v H'

def PE (X : Cx) (e : Expr) (t : TE) : Prop :=
  ∀ (pins : List (Addr × Obj)) (s : Shared) (σ : St) (H : Hp) (Q : VK), Inv X pins σ H s → t σ H Q → wpAny (model X.prog X.w) X.A (eval e X.env) (EP X pins σ Q) X.xe s
def PT (X : Cx) (e : Expr) (t : TT) : Prop :=
  ∀ (pins : List (Addr × Obj)) (s : Shared) (σ : St) (H : Hp) (Q : Bool → Hp → Prop), Inv X pins σ H s → t σ H Q → wpAny (model X.prog X.w) X.A (isTrue e X.env (eval e X.env)) (TP X pins σ Q) X.xe s
/-- a test whatever its 'whole' is (and, or) -/
def PW (X : Cx) (e : Expr) (t : TT) : Prop :=
  ∀ (whole : Sem Value) (pins : List (Addr × Obj)) (s : Shared) (σ : St) (H : Hp) (Q : Bool → Hp → Prop), Inv X pins σ H s → t σ H Q → wpAny (model X.prog X.w) X.A (isTrue e X.env whole) (TP X pins σ Q) X.xe s
theorem PW.pt {X : Cx} {e : Expr} {t : TT} (h : PW X e t) : PT X e t := h _
/-- an argument list (no star), from the left -/
def PA (X : Cx) (es : List Expr) (t : TA) : Prop :=
  ∀ (pos : Pos) (pins : List (Addr × Obj)) (s : Shared) (σ : St) (H : Hp) (Q : List V → Hp → Prop), Inv X pins σ H s → t σ H Q → wpAny (model X.prog X.w) X.A (spliced (backTo pos (starEach es X.env))) (AP X pins σ Q) X.xe s
def PS (X : Cx) (st : Stmt) (t : TS) : Prop :=
  ∀ (pins : List (Addr × Obj)) (s : Shared) (σ : St) (H : Hp) (D : Ends), Inv X pins σ H s → t D σ H → wpAny (model X.prog X.w) X.A (exec st X.env) (SP X pins D) X.xe s
def PSs (X : Cx) (st : List Stmt) (t : TS) : Prop :=
  ∀ (pins : List (Addr × Obj)) (s : Shared) (σ : St) (H : Hp) (D : Ends), Inv X pins σ H s → t D σ H → wpAny (model X.prog X.w) X.A (execs st X.env) (SP X pins D) X.xe s
/-- weaken the end -/
theorem thn {α : Type} {t : Sem α} {Q Q' : α → Shared → Prop} {M : Model} {A : Around} {E : Value → Shared → Prop} {s : Shared} (h : wpAny M A t Q E s) (hQ : ∀ a s, Q a s → Q' a s) : wpAny M A t Q' E s := wpAny_mono h hQ fun _ _ x => x
end L2

namespace L2
open PySem PySem.Spec PyProof.Rows
section
variable {X : Cx}


/-! ### names and constants -/
def tVar (i : Nat) : TE := fun σ H Q => ∃ v, σ[i]? = some (some v) ∧ Q v H
def tC (v : V) : TE := fun _ H Q => Q v H
theorem pe_var {i : Nat} {x : Str} {pos : Pos} (hN : X.N[i]? = some x) (hv : Vis X.env.scope x) (hd : (x == ("__debug__" : Str)) = false := by decide) (hcd : (x == ("__classdict__" : Str)) = false := by decide) : PE X (.Name x pos) (tVar i) := by
  intro pins s σ H Q I h
  obtain ⟨v, e, h⟩ := h
  obtain ⟨m, hn, hl⟩ := I.loc
  obtain ⟨u, r, l⟩ := hl i x v hN e hv
  have fin : EP X pins σ Q u s := ⟨v, H, I, r, h⟩
  rcases l with ⟨hk, hm⟩ | ⟨hk, c, hc, hcell⟩
  · exact wpAny_Name (wpAny_loadName_local I.ok.kind hk hn hm fin) hd
  · rcases hk with hk | hk
    · exact wpAny_Name (wpAny_loadName_cell I.ok.kind hk hc hcell fin) hd
    · exact wpAny_Name (wpAny_loadName_free I.ok.kind hk hc hcell fin hcd) hd
theorem pe_int {i j pos} : PE X (.Constant (.int i) j pos) (tC (.int i)) := fun _ _ _ H _ I h => wpAny_Constant_int ⟨.int i, H, I.tok _, ⟨_, rfl⟩, h⟩
theorem pe_bl {b j pos} : PE X (.Constant (.bool b) j pos) (tC (.bl b)) := fun _ _ _ H _ I h => Constant_bool ⟨.bl b, H, I, rfl, h⟩

/-- a global name of the def -/
def Gl (X : Cx) (x : Str) : Prop := X.env.kindOf x = some .globalImplicit
theorem ld_glob {E : Value → Shared → Prop} {pins : List (Addr × Obj)} {s : Shared} {σ : St} {H : Hp} {x : Str} {u : Value} {pos : Pos} {Q : Value → Shared → Prop} (I : Inv X pins σ H s) (hg : Gl X x) (hm : X.mg x = some u) (h : Q u s)
    (hd : (x == ("__debug__" : Str)) = false := by decide) : wpAny (model X.prog X.w) X.A (eval (.Name x pos) X.env) Q E s :=
  Calls.Name_function_global I.ok.kind hg (Calls.loadGlobal_global (by rw [I.ok.glob]; exact I.mod.glob.keeps I.bk) hm h) hd
theorem ld_blt {E : Value → Shared → Prop} {pins : List (Addr × Obj)} {s : Shared} {σ : St} {H : Hp} {x : Str} {u : Value} {pos : Pos} {Q : Value → Shared → Prop} (I : Inv X pins σ H s) (hg : Gl X x) (hm : X.mg x = none) (hv : bootBuiltins x = some u) (h : Q u s)
    (hn : x ≠ "__name__" := by decide) (hd : (x == ("__debug__" : Str)) = false := by decide) : wpAny (model X.prog X.w) X.A (eval (.Name x pos) X.env) Q E s := by
  obtain ⟨mb, h1, h2⟩ := I.mod.blt
  exact Calls.Name_function_global I.ok.kind hg (Calls.loadGlobal_builtin (by rw [I.ok.glob]; exact I.mod.glob.keeps I.bk) hm (by rw [I.ok.blt]; exact h1.keeps I.bk) ((h2 x hn).trans hv) h) hd
/-- a module's constant, a class, a function, as a value -/
theorem pe_glob {x : Str} {v : V} {u : Value} {pos : Pos} (hg : Gl X x) (hm : X.mg x = some u) (r : RelV v u) (hd : (x == ("__debug__" : Str)) = false := by decide) : PE X (.Name x pos) (tC v) :=
  fun _ _ _ H _ I h => ld_glob I hg hm ⟨v, H, I, r, h⟩ hd

/-! ### arithmetic -/
variable {a b : Expr} {ta tb : TE} {pos : Pos}

/-! ### comparisons -/

/-! ### and, or, not -/
variable {tA tB' : TT} {rest : List Expr}
def tAnd (t u : TT) : TT := fun σ H Q => t σ H fun c H1 => if c = true then u σ H1 Q else Q false H1
def tOr (t u : TT) : TT := fun σ H Q => t σ H fun c H1 => if c = true then Q true H1 else u σ H1 Q
def tNot (t : TT) : TT := fun σ H Q => t σ H fun c H1 => Q (!c) H1
theorem pw_and1 (ha : PT X a tA) : PW X (.BoolOp .And [a] pos) tA := by
  intro wh pins s σ H Q I h
  refine isTrue_and (thn (ha pins s σ H Q I h) fun c s1 e => ?_)
  cases c with
  | true => exact isTrue_and_nil e
  | false => exact e
theorem pw_or1 (ha : PT X a tA) : PW X (.BoolOp .Or [a] pos) tA := by
  intro wh pins s σ H Q I h
  refine isTrue_or (thn (ha pins s σ H Q I h) fun c s1 e => ?_)
  cases c with
  | false => exact isTrue_or_nil e
  | true => exact e
theorem pw_and (ha : PT X a tA) (hb : PW X (.BoolOp .And (b :: rest) pos) tB') : PW X (.BoolOp .And (a :: b :: rest) pos) (tAnd tA tB') := by
  intro wh pins s σ H Q I h
  refine isTrue_and (thn (ha pins s σ H _ I h) fun c s1 ⟨H1, I1, q1⟩ => ?_)
  cases c with
  | true => exact hb wh pins s1 σ H1 Q I1 q1
  | false => exact ⟨H1, I1, q1⟩
theorem pw_or (ha : PT X a tA) (hb : PW X (.BoolOp .Or (b :: rest) pos) tB') : PW X (.BoolOp .Or (a :: b :: rest) pos) (tOr tA tB') := by
  intro wh pins s σ H Q I h
  refine isTrue_or (thn (ha pins s σ H _ I h) fun c s1 ⟨H1, I1, q1⟩ => ?_)
  cases c with
  | true => exact ⟨H1, I1, q1⟩
  | false => exact hb wh pins s1 σ H1 Q I1 q1
theorem pt_not (ha : PT X a tA) : PT X (.UnaryOp .Not a pos) (tNot tA) := by
  intro pins s σ H Q I h
  exact isTrue_not (ha pins s σ H (fun c H1 => Q (!c) H1) I h)
/-- .. as values (bools) -/
def tAndV (ta tb : TE) : TE := fun σ H Q => ta σ H fun x H1 => ∃ c, x = .bl c ∧ if c = true then tb σ H1 Q else Q (.bl false) H1
def tNotV (ta : TE) : TE := fun σ H Q => ta σ H fun x H1 => ∃ c, x = .bl c ∧ Q (.bl (!c)) H1
theorem pe_one {op} {t : TE} (h : PE X a t) : PE X (.BoolOp op [a] pos) t := fun pins s σ H Q I hw => BoolOp_one (h pins s σ H Q I hw)
theorem pe_and (ha : PE X a ta) (hb : PE X (.BoolOp .And (b :: rest) pos) tb) : PE X (.BoolOp .And (a :: b :: rest) pos) (tAndV ta tb) := by
  intro pins s σ H Q I h
  refine BoolOp_and (thn (ha pins s σ H _ I h) fun v s1 ⟨x, H1, I1, r1, q1⟩ => ?_)
  obtain ⟨c, rfl, q1⟩ := q1
  cases r1
  refine wpAny_truthy_bool ?_
  cases c with
  | true => exact hb pins s1 σ H1 Q I1 q1
  | false => exact ⟨.bl false, H1, I1, rfl, q1⟩
theorem pe_not (ha : PE X a ta) : PE X (.UnaryOp .Not a pos) (tNotV ta) := by
  intro pins s σ H Q I h
  refine UnaryOp_ (thn (ha pins s σ H _ I h) fun v s1 ⟨x, H1, I1, r1, q1⟩ => ?_)
  obtain ⟨c, rfl, q1⟩ := q1
  cases r1
  exact not_of (wpAny_truthy_bool ⟨.bl (!c), H1, I1, rfl, q1⟩)
/-- a if t else b -/
def tIf (t : TT) (ta tb : TE) : TE := fun σ H Q => t σ H fun c H1 => if c = true then ta σ H1 Q else tb σ H1 Q
theorem pe_ifExp {c : Expr} (hc : PT X c tA) (ha : PE X a ta) (hb : PE X b tb) : PE X (.IfExp c a b pos) (tIf tA ta tb) := by
  intro pins s σ H Q I h
  refine wpAny_IfExp (thn (hc pins s σ H _ I h) fun d s1 ⟨H1, I1, q1⟩ => ?_)
  cases d with
  | true => exact ha pins s1 σ H1 Q I1 q1
  | false => exact hb pins s1 σ H1 Q I1 q1
end
end L2

namespace L2
open PySem PySem.Spec PyProof.Rows

/-! ### a list, a tuple that is read: tracked, frozen, or an object of the module -/
def SqL (K : PySem.W.Frag) (H : Hp) (a : Addr) (xs : List V) : Prop :=
  Rd H a (.lst xs) ∨
    ∃ (o : Obj) (its : Array Value) (n : Nat), K.lookup a = some o ∧ o.cls = .type "list" ∧ o.dict = none ∧ o.data = .seq its n ∧ its.size ≤ sizeLine ∧ Vals xs its.toList
def SqT (K : PySem.W.Frag) (H : Hp) (a : Addr) (xs : List V) : Prop :=
  Rd H a (.tup xs) ∨
    ∃ (o : Obj) (its : Array Value) (n : Nat), K.lookup a = some o ∧ o.cls = .type "tuple" ∧ o.data = .seq its n ∧ its.size ≤ sizeLine ∧ Vals xs its.toList
def absV : Value → Option V
  | .none => some .non
  | .bool b => some (.bl b)
  | .int i _ => some (.int i)
  | .str x _ => some (.str x)
  | .bytes b _ => some (.byt b)
  | .float b _ => some (.flt b)
  | .ref a => some (.ref a)
  | .type n => some (.ty n)
  | _ => none
theorem RelV.abs {x : V} {u : Value} (r : RelV x u) : absV u = some x := by
  cases x with
  | non => cases r; rfl
  | bl _ => cases r; rfl
  | int _ => obtain ⟨t, rfl⟩ := r; rfl
  | str _ => obtain ⟨t, rfl⟩ := r; rfl
  | byt _ => obtain ⟨t, rfl⟩ := r; rfl
  | flt _ => obtain ⟨t, rfl⟩ := r; rfl
  | ref _ => cases r; rfl
  | ty _ => cases r; rfl
theorem RelV.inj {x y : V} {u : Value} (r : RelV x u) (q : RelV y u) : x = y := Option.some.inj (r.abs.symm.trans q.abs)
theorem Vals.inj : ∀ {xs ys : List V} {us : List Value}, Vals xs us → Vals ys us → xs = ys
  | _, _, _, .nil, .nil => rfl
  | _, _, _, .cons r t, .cons r' t' => by rw [r.inj r', Vals.inj t t']
section
variable {X : Cx} {pins : List (Addr × Obj)} {σ : St} {H : Hp} {s : Shared} {a : Addr} {xs ys : List V}
theorem SqL.of {K : PySem.W.Frag} (h : H a = some (.lst xs)) : SqL K H a xs := .inl (.inl h)
theorem SqT.of {K : PySem.W.Frag} (h : H a = some (.tup xs)) : SqT K H a xs := .inl (.inl h)
theorem Inv.list (I : Inv X pins σ H s) (h : SqL X.K H a xs) : ∃ its : List Value, Vals xs its ∧ PlainL s.heap a its.toArray ∧ xs.length ≤ sizeLine := by
  rcases h with h | ⟨o, its, n, hk, hc, hd, hs, hz, r⟩
  · obtain ⟨z, its, n, r, e⟩ := h.ok I.hok
    exact ⟨its, r, ⟨_, n, e, rfl, rfl, rfl⟩, z⟩
  · refine ⟨its.toList, r, ⟨o, n, I.kIn a o hk, hc, hd, by simpa using hs⟩, ?_⟩
    have e := r.length
    simp only [Array.length_toList] at e
    omega
theorem Inv.tuple (I : Inv X pins σ H s) (h : SqT X.K H a xs) : ∃ its : List Value, Vals xs its ∧ IsTup s.heap a its.toArray ∧ xs.length ≤ sizeLine := by
  rcases h with h | ⟨o, its, n, hk, hc, hs, hz, r⟩
  · obtain ⟨z, its, r, p⟩ := h.ok I.hok
    exact ⟨its, r, p, z⟩
  · refine ⟨its.toList, r, ⟨o, I.kIn a o hk, hc, n, by simpa using hs⟩, ?_⟩
    have e := r.length
    simp only [Array.length_toList] at e
    omega
theorem Inv.list_inj (I : Inv X pins σ H s) (h : SqL X.K H a xs) (h' : SqL X.K H a ys) : xs = ys := by
  obtain ⟨its, r, ⟨o, n, e, _, _, d⟩, _⟩ := I.list h
  obtain ⟨its', r', ⟨o', n', e', _, _, d'⟩, _⟩ := I.list h'
  rw [e] at e'; cases e'
  rw [d] at d'
  injection d' with d1 _
  have : its = its' := by simpa using congrArg Array.toList d1
  subst this
  exact r.inj r'
theorem Inv.tuple_inj (I : Inv X pins σ H s) (h : SqT X.K H a xs) (h' : SqT X.K H a ys) : xs = ys := by
  obtain ⟨its, r, ⟨o, e, _, n, d⟩, _⟩ := I.tuple h
  obtain ⟨its', r', ⟨o', e', _, n', d'⟩, _⟩ := I.tuple h'
  rw [e] at e'; cases e'
  rw [d] at d'
  injection d' with d1 _
  have : its = its' := by simpa using congrArg Array.toList d1
  subst this
  exact r.inj r'
end

/-! ### another wish about exceptions -/
abbrev Cx.wish (X : Cx) (E : Value → Shared → Prop) : Cx := { X with xe := E }
/-- no exception leaves -/
abbrev Cx.nox (X : Cx) : Cx := X.wish fun _ _ => False
theorem Cx.Ok.wish {X : Cx} (ok : X.Ok) (E : Value → Shared → Prop) : (X.wish E).Ok :=
  ⟨ok.mod, ok.kind, ok.glob, ok.blt, ok.above, ok.inj, ok.has, ok.cab, ok.hd, ok.frames, ok.stk, ok.exf, ok.bs, ok.bsz, ok.noex, ok.exfs, ok.funs, ok.frf⟩
theorem Cx.Ok.unwish {X : Cx} {E : Value → Shared → Prop} (ok : (X.wish E).Ok) : X.Ok :=
  ⟨ok.mod, ok.kind, ok.glob, ok.blt, ok.above, ok.inj, ok.has, ok.cab, ok.hd, ok.frames, ok.stk, ok.exf, ok.bs, ok.bsz, ok.noex, ok.exfs, ok.funs, ok.frf⟩
section
variable {X : Cx} {pins : List (Addr × Obj)} {σ : St} {H : Hp} {s : Shared} {E : Value → Shared → Prop}
theorem Inv.wish (I : Inv X pins σ H s) (E : Value → Shared → Prop) : Inv (X.wish E) pins σ H s := ⟨I.ok.wish E, I.os, I.bare, I.base, I.loc, I.cell, I.free, I.freeC, I.pin, I.hok, I.len⟩
theorem Inv.unwish (I : Inv (X.wish E) pins σ H s) : Inv X pins σ H s := ⟨I.ok.unwish, I.os, I.bare, I.base, I.loc, I.cell, I.free, I.freeC, I.pin, I.hok, I.len⟩
theorem SP.unwish {D : Ends} {f : Flow} {s' : Shared} (h : SP (X.wish E) pins D f s') : SP X pins D f s' := by
  cases f with
  | next => obtain ⟨σ', H', I, q⟩ := h; exact ⟨σ', H', I.unwish, q⟩
  | brk => obtain ⟨σ', H', I, q⟩ := h; exact ⟨σ', H', I.unwish, q⟩
  | cont => obtain ⟨σ', H', I, q⟩ := h; exact ⟨σ', H', I.unwish, q⟩
  | ret u => obtain ⟨v, σ', H', I, r, q⟩ := h; exact ⟨v, σ', H', I.unwish, r, q⟩
theorem PE.nox {e : Expr} {t : TE} (h : PE X.nox e t) : PE X e t := fun pins s σ H Q I hw =>
  wpAny_mono (h pins s σ H Q (I.wish _) hw) (fun _ _ ⟨v, H', I', r, q⟩ => ⟨v, H', I'.unwish, r, q⟩) fun _ _ z => False.elim z
theorem PT.nox {e : Expr} {t : TT} (h : PT X.nox e t) : PT X e t := fun pins s σ H Q I hw =>
  wpAny_mono (h pins s σ H Q (I.wish _) hw) (fun _ _ ⟨H', I', q⟩ => ⟨H', I'.unwish, q⟩) fun _ _ z => False.elim z
theorem PSs.nox {st : List Stmt} {t : TS} (h : PSs X.nox st t) : PSs X st t := fun pins s σ H D I hw =>
  wpAny_mono (h pins s σ H D (I.wish _) hw) (fun _ _ q => q.unwish) fun _ _ z => False.elim z
end

/-! ### blocks and small statements -/
section
variable {X : Cx} {st : Stmt} {rest : List Stmt} {t u : TS} {e : Expr} {te : TE} {pos : Pos}
def tNext : TS := fun D σ H => D.nx σ H
def tSeq (t u : TS) : TS := fun D σ H => t { D with nx := u D } σ H
theorem pss_nil : PSs X [] tNext := fun _ _ σ H _ I h => wpAny_execs_nil ⟨σ, H, I, h⟩
theorem pss_cons (h1 : PS X st t) (h2 : PSs X rest u) : PSs X (st :: rest) (tSeq t u) := by
  intro pins s σ H D I h
  refine wpAny_execs_cons (thn (h1 pins s σ H { D with nx := u D } I h) fun f s1 q => ?_)
  cases f with
  | next =>
    obtain ⟨σ', H', I', q⟩ := q
    exact h2 pins s1 σ' H' D I' q
  | ret v => exact q
  | brk => exact q
  | cont => exact q
theorem pss_one (h1 : PS X st t) : PSs X [st] t := by
  intro pins s σ H D I h
  refine wpAny_execs_cons (thn (h1 pins s σ H D I h) fun f s1 q => ?_)
  cases f with
  | next => exact wpAny_execs_nil q
  | ret v => exact q
  | brk => exact q
  | cont => exact q
theorem ps_pass : PS X (.Pass pos) tNext := fun _ _ σ H _ I h => wpAny_Pass ⟨σ, H, I, h⟩
/-- in a def's body nothing is shown -/
theorem Inv.quiet {pins : List (Addr × Obj)} {σ : St} {H : Hp} {s : Shared} (I : Inv X pins σ H s) : interactive X.env = false := by simp [interactive, I.ok.kind]
/-- an expression whose value is dropped -/
def tDrop (te : TE) : TS := fun D σ H => te σ H fun _ H1 => D.nx σ H1
theorem ps_expr (he : PE X e te) (hs : swapsWith e none pos.line X.env = pure false := by rfl) : PS X (.Expr e pos) (tDrop te) := by
  intro pins s σ H D I h
  exact wpAny_Expr_any (thn (he pins s σ H _ I h) fun v s1 ⟨x, H1, I1, r1, q1⟩ => ⟨σ, H1, I1, q1⟩) I.quiet hs
def tRet (te : TE) : TS := fun D σ H => te σ H D.rt
theorem ps_ret (he : PE X e te) : PS X (.Return (some e) pos) (tRet te) := by
  intro pins s σ H D I h
  exact wpAny_Return_some (thn (he pins s σ H _ I h) fun v s1 ⟨x, H1, I1, r1, q1⟩ => ⟨x, σ, H1, I1, r1, q1⟩)
def tIfS (c : TT) (t u : TS) : TS := fun D σ H => c σ H fun b H1 => if b = true then t D σ H1 else u D σ H1
theorem ps_if {c : Expr} {a b : List Stmt} {tc : TT} (hc : PT X c tc) (ha : PSs X a t) (hb : PSs X b u) : PS X (.If c a b pos) (tIfS tc t u) := by
  intro pins s σ H D I h
  refine wpAny_If (thn (hc pins s σ H _ I h) fun d s1 ⟨H1, I1, q1⟩ => ?_)
  cases d with
  | true => exact ha pins s1 σ H1 D I1 q1
  | false => exact hb pins s1 σ H1 D I1 q1
end

/-! ### targets -/
abbrev TG := V → St → Hp → (St → Hp → Prop) → Prop
def PG (X : Cx) (target : Expr) (t : TG) : Prop :=
  ∀ (pins : List (Addr × Obj)) (s : Shared) (σ : St) (H : Hp) (v : V) (u : Value) (Q : St → Hp → Prop), Inv X pins σ H s → RelV v u → t v σ H Q →
    wpAny (model X.prog X.w) X.A (assign target X.env u) (fun _ s' => ∃ σ' H', Inv X pins σ' H' s' ∧ Q σ' H') X.xe s
/-- o[i] = v, by values -/
abbrev TSet := V → V → V → Hp → (Hp → Prop) → Prop
def PSet (X : Cx) (t : TSet) : Prop :=
  ∀ (pins : List (Addr × Obj)) (s : Shared) (σ : St) (H : Hp) (o i v : V) (ov iv u : Value) (Q : Hp → Prop), Inv X pins σ H s → RelV o ov → RelV i iv → RelV v u → t o i v H Q →
    wpAny (model X.prog X.w) X.A (setItem ov iv u) (fun _ s' => ∃ H', Inv X pins σ H' s' ∧ Q H') X.xe s
section
variable {X : Cx} {pos : Pos}
def gName (i : Nat) : TG := fun v σ H Q => Q (σ.set i (some v)) H
theorem pg_name {i : Nat} {x : Str} (hN : X.N.Nodup) (hi : X.N[i]? = some x) (hx : Loc X.env.scope x) (hf : X.fn x = true ∨ X.env.scope.names.lookup x = some .local := by first | exact .inl rfl | exact .inr rfl | assumption) : PG X (.Name x pos) (gName i) := by
  intro pins s σ H v u Q I r h
  exact wpAny_assign_Name (store_ok I hN hi hx r (fun s' I' => ⟨_, H, I', h⟩) hf)
/-- o[i] = .. -/
def gSub (to ti : TE) (t : TSet) : TG := fun v σ H Q => to σ H fun o H1 => ti σ H1 fun i H2 => t o i v H2 fun H3 => Q σ H3
theorem pg_sub {o i : Expr} {to ti : TE} {t : TSet} (ho : PE X o to) (hi : PE X i ti) (hs : PSet X t)
    (ha : ∀ v, assign (.Subscript o i pos) X.env v = (do
      let ov ← holding [v] (eval o X.env)
      let iv ← holding [v, ov] (eval i X.env)
      standAt pos
      holding [v, ov, iv] (setItem ov iv v)
      release [v, ov, iv] []) := by intro _; rfl) : PG X (.Subscript o i pos) (gSub to ti t) := by
  intro pins s σ H v u Q I r h
  rw [ha]
  refine wpAny_bind (wpAny_holding (thn (ho pins s σ H _ I h) fun ov s1 ⟨x, H1, I1, r1, q1⟩ => ?_))
  refine wpAny_bind (wpAny_holding (thn (hi pins s1 σ H1 _ I1 q1) fun iv s2 ⟨y, H2, I2, r2, q2⟩ => ?_))
  refine wpAny_bind (wpAny_standAt (wpAny_bind (wpAny_holding (thn (hs pins s2 σ H2 x y v ov iv u _ I2 r1 r2 r q2) fun _ s3 ⟨H3, I3, q3⟩ => ?_))))
  exact wpAny_release ⟨σ, H3, I3, q3⟩
/-- target = value -/
def tAsg (te : TE) (g : TG) : TS := fun D σ H => te σ H fun x H1 => g x σ H1 D.nx
theorem ps_asg {tg e : Expr} {te : TE} {g : TG} (he : PE X e te) (hg : PG X tg g) (hs : swapsWithSole [tg] e pos.line X.env = pure false := by rfl) (hw : swappedStores [tg] e X.env = pure none := by rfl)
    (h1 : (assignEach [tg] X.env).map (·.2) = [assign tg X.env] := by rfl) : PS X (.Assign [tg] e pos) (tAsg te g) := by
  intro pins s σ H D I h
  refine wpAny_Assign_stores (thn (he pins s σ H _ I h) fun v s1 ⟨x, H1, I1, r1, q1⟩ => ?_) hs hw
  rw [h1]
  exact thn (hg pins s1 σ H1 x v _ I1 r1 q1) fun _ s2 q => q
/-- name = value -/
theorem ps_set {i : Nat} {x : Str} {e : Expr} {te : TE} {pos' : Pos} (hN : X.N.Nodup) (hi : X.N[i]? = some x) (hx : Loc X.env.scope x) (he : PE X e te) (hs : swapsWith e (some (.Name x pos')) pos.line X.env = pure false := by rfl) (hf : X.fn x = true ∨ X.env.scope.names.lookup x = some .local := by first | exact .inl rfl | exact .inr rfl | assumption) :
    PS X (.Assign [.Name x pos'] e pos) (tAsg te (gName i)) := by
  intro pins s σ H D I h
  refine wpAny_Assign_Name (thn (he pins s σ H _ I h) fun v s1 ⟨y, H1, I1, r1, q1⟩ => ?_) hs
  exact store_ok I1 hN hi hx r1 (fun s2 I2 => ⟨_, H1, I2, q1⟩) hf
end

/-! ### while -/
section
variable {X : Cx} {pos : Pos}
/-- the invariant W with its measure -/
def tWhile (c : TT) (tb : TS) : TS := fun D σ H => ∃ W : Nat → St → Hp → Prop, (∃ m, W m σ H) ∧ ∀ m σ H, W m σ H →
  c σ H fun b H1 => if b = true then ∃ N : St → Hp → Prop, (∀ σ' H', N σ' H' → ∃ m', m' < m ∧ W m' σ' H') ∧ tb { D with nx := N, ct := N, bk := D.nx } σ H1 else D.nx σ H1
theorem ps_while {c : Expr} {body : List Stmt} {tc : TT} {tb : TS} (hp : PassesOwn (model X.prog X.w) X.A X.env X.xe) (hc : PT X c tc) (hb : PSs X body tb) : PS X (.While c body [] pos) (tWhile tc tb) := by
  intro pins s σ H D I h
  obtain ⟨W, ⟨m0, w0⟩, turn⟩ := h
  refine wpAny_While (codeAny_whileLoop (fun n s' => ∃ σ' H', Inv X pins σ' H' s' ∧ W n σ' H') ?_ m0 ⟨σ, H, I, w0⟩)
  rintro n s1 ⟨σ1, H1, I1, w1⟩
  refine wpAny_passesOwn hp (thn (hc pins s1 σ1 H1 _ I1 (turn n σ1 H1 w1)) fun b s2 ⟨H2, I2, q2⟩ => ?_)
  cases b with
  | true =>
    obtain ⟨N, hN, q2⟩ := q2
    rw [if_pos rfl]
    refine wpAny_passesOwn hp (thn (hb pins s2 σ1 H2 _ I2 q2) fun f s3 q3 => ?_)
    cases f with
    | next =>
      obtain ⟨σ3, H3, I3, n3⟩ := q3
      obtain ⟨m', hm, w3⟩ := hN σ3 H3 n3
      exact ⟨m', hm, σ3, H3, I3, w3⟩
    | cont =>
      obtain ⟨σ3, H3, I3, n3⟩ := q3
      obtain ⟨m', hm, w3⟩ := hN σ3 H3 n3
      exact ⟨m', hm, σ3, H3, I3, w3⟩
    | brk => exact q3
    | ret v => exact q3
  | false =>
    rw [if_neg Bool.false_ne_true]
    exact wpAny_execs_nil ⟨σ1, H2, I2, q2⟩
end

/-! ### what a loop or a comprehension walks -/
/-- at turn i: it yields x (the heap may grow), or it stops -/
structure It where
  go : Nat → Hp → Prop
  yld : Nat → Hp → V → Hp → Prop
  stop : Nat → Hp → Prop
/-- the iterator's own objects may turn: they are not the frame's, not pinned, younger than the entry (or a comprehension's own) -/
def FpOk (X : Cx) (pins : List (Addr × Obj)) (H : Hp) (b : Addr) : Prop :=
  H b = none ∧ b ≠ X.env.locals ∧ b ∉ X.fs ∧ (b ∈ X.ex ∨ X.s_0.heap.objs.size ≤ b) ∧ (∀ x c, X.env.cells.lookup x = some c → c ≠ b) ∧ ∀ p ∈ X.pn ++ pins, p.1 ≠ b
theorem Inv.fpOk {X : Cx} {pins : List (Addr × Obj)} {σ : St} {H H' : Hp} {s : Shared} {b : Addr} (I : Inv X pins σ H s) (hb : s.heap.objs.size ≤ b) (hn : H' b = none) : FpOk X pins H' b := by
  refine ⟨hn, Nat.ne_of_gt (Nat.lt_of_lt_of_le I.lt hb), I.nofs hb, .inr (Nat.le_trans I.sz hb), fun x c e z => ?_, fun p hp z => ?_⟩
  · obtain ⟨v, q⟩ := I.cell x c e
    exact absurd (Nat.lt_of_lt_of_le q.lt (by rw [z]; exact hb)) (Nat.lt_irrefl _)
  · exact absurd (Nat.lt_of_lt_of_le (Heap.lt_size (I.pin p hp).1) (by rw [z]; exact hb)) (Nat.lt_irrefl _)
structure Turn (P : Program) (w : World) (K : PySem.W.Frag) (tg : Expr) (J : It) (fp : List Addr) (it : Addr) (tn : Nat → Heap → Prop) : Prop where
  mem : it ∈ fp
  obj : ∀ i h, tn i h → ∀ b ∈ fp, ∃ o, h.get? b = some o ∧ ∀ v, o.data ≠ .cell v
  keep : ∀ i h h', tn i h → (∀ b ∈ fp, ∀ o, h.get? b = some o → h'.get? b = some o) → tn i h'
  item : ∀ (X : Cx), X.prog = P → X.w = w → X.K = K → X.calm = true → ∀ (i : Nat) (pins : List (Addr × Obj)) (s : Shared) (σ : St) (H : Hp) (E : Value → Shared → Prop), Inv X pins σ H s → (∀ b ∈ fp, FpOk X pins H b) → tn i s.heap → J.go i H →
    wpAny (model P w) X.A (pyNext (.ref it)) (fun r s1 => ∃ u, r = some u ∧
      wpAny (model P w) X.A (letOwnedTupleGo tg (.ref it) u) (fun _ s2 => ∃ x H', Inv X pins σ H' s2 ∧ RelV x u ∧ J.yld i H x H' ∧ tn (i + 1) s2.heap ∧ ∀ b ∈ fp, H' b = none) E s1) E s
  done : ∀ (X : Cx), X.prog = P → X.w = w → X.K = K → X.calm = true → ∀ (i : Nat) (pins : List (Addr × Obj)) (s : Shared) (σ : St) (H : Hp) (E : Value → Shared → Prop), Inv X pins σ H s → (∀ b ∈ fp, FpOk X pins H b) → tn i s.heap → J.stop i H →
    wpAny (model P w) X.A (pyNext (.ref it)) (fun r s1 => r = none ∧ Inv X pins σ H s1) E s
  self : ∀ (A : Around) (i : Nat) (s : Shared) (Q : Value → Shared → Prop) (E : Value → Shared → Prop), tn i s.heap → Q (.ref it) s → wpAny (model P w) A (pyIter (.ref it)) Q E s
abbrev TI := St → Hp → (It → Hp → Prop) → Prop
/-- an iterator has come -/
def PIE (X : Cx) (pins : List (Addr × Obj)) (σ : St) (tg : Expr) (R : It → Hp → Prop) (itv : Value) (s2 : Shared) : Prop :=
  ∃ (it : Addr) (fp : List Addr) (tn : Nat → Heap → Prop) (J : It) (H' : Hp), itv = .ref it ∧ Inv X pins σ H' s2 ∧ Turn X.prog X.w X.K tg J fp it tn ∧ tn 0 s2.heap ∧ (∀ b ∈ fp, FpOk X pins H' b) ∧ R J H'
def PI (X : Cx) (tg iter : Expr) (wi : TI) : Prop :=
  ∀ (pins : List (Addr × Obj)) (s : Shared) (σ : St) (H : Hp) (R : It → Hp → Prop), Inv X pins σ H s → wi σ H R →
    wpAny (model X.prog X.w) X.A (eval iter X.env) (fun v s1 => wpAny (model X.prog X.w) X.A (pyIter v) (PIE X pins σ tg R) X.xe s1) X.xe s

/-- the step ahead of the store is nothing for an iterator that keeps no tuple -/
theorem go_of {M : Model} {A : Around} {E : Value → Shared → Prop} {s : Shared} {tg : Expr} {it : Addr} {u : Value} {o : Obj} {n : String} {vs : Array Value} {Q : Unit → Shared → Prop} (ho : s.heap.get? it = some o) (hc : o.cls = .type n) (hd : o.data = .fields vs)
    (hn : ["enumerate", "zip", "dict_itemiterator", "dict_reverseitemiterator", "odict_iterator", "itertools.zip_longest", "itertools.pairwise"].contains n = false) (hQ : Q () s) : wpAny M A (letOwnedTupleGo tg (.ref it) u) Q E s := by
  unfold letOwnedTupleGo
  cases tg <;> first
    | exact wpAny_pure hQ
    | (cases u <;> first
        | exact wpAny_pure hQ
        | (refine wpAny_bind (wpAny_load ho ?_)
           rw [hc, hd]
           show wpAny M A (if (["enumerate", "zip", "dict_itemiterator", "dict_reverseitemiterator", "odict_iterator", "itertools.zip_longest", "itertools.pairwise"].contains n && vs[0]? == some (rawInt _)) = true then _ else _) Q E s
           rw [if_neg (by intro h; rw [hn, Bool.false_and] at h; cases h)]
           exact wpAny_pure hQ))

/-- the list at a, as it stands at each turn (a loop may append to it) -/
def Itl (K : PySem.W.Frag) (a : Addr) : It :=
  ⟨fun i H => ∃ xs x, SqL K H a xs ∧ xs[i]? = some x, fun i H x H' => H' = H ∧ ∀ xs, SqL K H a xs → xs[i]? = some x, fun i H => ∃ xs, SqL K H a xs ∧ xs.length ≤ i⟩
def Itt (K : PySem.W.Frag) (a : Addr) : It :=
  ⟨fun i H => ∃ xs x, SqT K H a xs ∧ xs[i]? = some x, fun i H x H' => H' = H ∧ ∀ xs, SqT K H a xs → xs[i]? = some x, fun i H => ∃ xs, SqT K H a xs ∧ xs.length ≤ i⟩
/-- lo, lo + 1, .. (n of them) -/
def Itr (lo : Int) (n : Nat) : It := ⟨fun i _ => i < n, fun i H x H' => H' = H ∧ x = .int (lo + i), fun i _ => n ≤ i⟩
theorem turn_list {P : Program} {w : World} {K : PySem.W.Frag} {tg : Expr} (a it : Addr) : Turn P w K tg (Itl K a) [it] it (fun i h => h.IsListIter it a i) where
  mem := by simp
  obj := fun i h st b hb => by
    have e : b = it := by simpa using hb
    subst e
    obtain ⟨o, e, c, d⟩ := st
    exact ⟨o, e, fun v z => by rw [d] at z; cases z⟩
  keep := fun i h h' st k => st.at fun o e => k it (by simp) o e
  item := by
    intro X hP hw hK hc i pins s σ H E I hf st hg
    subst hP hw hK
    obtain ⟨xs, x, hq, hx⟩ := hg
    obtain ⟨its, rv, p, hz⟩ := I.list hq
    obtain ⟨u, hu, ru⟩ := rv.get hx
    obtain ⟨f0, f1, f2, f3, f4, f5⟩ := hf it (by simp)
    refine wpAny_pyNext_list_item st p.isList (x := u) (by simpa using hu) fun h' st' sb => ?_
    have I1 : Inv X pins σ H { s with heap := h' } := I.turned (t' := s.toks) (fun b o hb e => (sb.2 b hb).trans e) f0 f1 f3 f4 f5
    obtain ⟨o, e, c, d⟩ := id st'
    exact ⟨u, rfl, go_of (s := { s with heap := h' }) e c d (by decide) ⟨x, H, I1, ru, ⟨rfl, fun ys hy => by rw [I.list_inj hy hq]; exact hx⟩, st', fun b hb => (hf b hb).1⟩⟩
  done := by
    intro X hP hw hK hc i pins s σ H E I hf st hg
    subst hP hw hK
    obtain ⟨xs, hq, hx⟩ := hg
    obtain ⟨its, rv, p, hz⟩ := I.list hq
    obtain ⟨f0, f1, f2, f3, f4, f5⟩ := hf it (by simp)
    have hl := rv.length
    exact wpAny_pyNext_list_end (I.ok.hd hc) st p.isList (by simp; omega) fun h' eb => ⟨rfl, I.turned (t' := s.toks) (fun b o hb e => eb b o hb e) f0 f1 f3 f4 f5⟩
  self := fun _ _ _ _ _ st h => wpAny_pyIter_listiter st h
theorem turn_tuple {P : Program} {w : World} {K : PySem.W.Frag} {tg : Expr} (a it : Addr) : Turn P w K tg (Itt K a) [it] it (fun i h => h.IsTupleIter it a i) where
  mem := by simp
  obj := fun i h st b hb => by
    have e : b = it := by simpa using hb
    subst e
    obtain ⟨o, e, c, d⟩ := st
    exact ⟨o, e, fun v z => by rw [d] at z; cases z⟩
  keep := fun i h h' st k => st.at fun o e => k it (by simp) o e
  item := by
    intro X hP hw hK hc i pins s σ H E I hf st hg
    subst hP hw hK
    obtain ⟨xs, x, hq, hx⟩ := hg
    obtain ⟨its, rv, p, hz⟩ := I.tuple hq
    obtain ⟨u, hu, ru⟩ := rv.get hx
    obtain ⟨f0, f1, f2, f3, f4, f5⟩ := hf it (by simp)
    refine wpAny_pyNext_tuple_item st (show s.heap.IsTuple a its.toArray from p) (x := u) (by simpa using hu) fun h' st' sb => ?_
    have I1 : Inv X pins σ H { s with heap := h' } := I.turned (t' := s.toks) (fun b o hb e => (sb.2 b hb).trans e) f0 f1 f3 f4 f5
    obtain ⟨o, e, c, d⟩ := id st'
    exact ⟨u, rfl, go_of (s := { s with heap := h' }) e c d (by decide) ⟨x, H, I1, ru, ⟨rfl, fun ys hy => by rw [I.tuple_inj hy hq]; exact hx⟩, st', fun b hb => (hf b hb).1⟩⟩
  done := by
    intro X hP hw hK hc i pins s σ H E I hf st hg
    subst hP hw hK
    obtain ⟨xs, hq, hx⟩ := hg
    obtain ⟨its, rv, p, hz⟩ := I.tuple hq
    obtain ⟨f0, f1, f2, f3, f4, f5⟩ := hf it (by simp)
    have hl := rv.length
    exact wpAny_pyNext_tuple_end (I.ok.hd hc) st (show s.heap.IsTuple a its.toArray from p) (by simp; omega) fun h' eb => ⟨rfl, I.turned (t' := s.toks) (fun b o hb e => eb b o hb e) f0 f1 f3 f4 f5⟩
  self := fun _ _ _ _ _ st h => wpAny_pyIter_tupleiter st h
theorem turn_range {P : Program} {w : World} {K : PySem.W.Frag} {tg : Expr} (it : Addr) (lo : Int) (n : Nat) : Turn P w K tg (Itr lo n) [it] it (fun i h => IsRangeIter h it (lo + (i : Nat) * 1) ((n : Int) - (i : Nat)) 1) where
  mem := by simp
  obj := fun i h st b hb => by
    have e : b = it := by simpa using hb
    subst e
    exact ⟨_, st, fun v z => by
      have z' : Data.fields _ = Data.cell v := z
      cases z'⟩
  keep := fun i h h' st k => k it (by simp) _ st
  item := by
    intro X hP hw hK hc i pins s σ H E I hf st hg
    subst hP hw hK
    obtain ⟨f0, f1, f2, f3, f4, f5⟩ := hf it (by simp)
    have W := Walks.range (prog := X.prog) (w := X.w) (I.ok.hd hc) it lo 1 n
    refine W.item i s _ _ hg st fun v h' tk hv st' kk => ?_
    obtain ⟨t, rfl⟩ := hv
    have I1 : Inv X pins σ H { s with heap := h', toks := tk } := I.turned (fun b o hb e => kk b o (by simpa using hb) e) f0 f1 f3 f4 f5
    refine ⟨_, rfl, go_of (s := { s with heap := h', toks := tk }) (n := "range_iterator") st' rfl rfl (by decide) ⟨.int (lo + i), H, I1, ⟨t, ?_⟩, ⟨rfl, rfl⟩, st', fun b hb => (hf b hb).1⟩⟩
    rw [Int.mul_one]
  done := by
    intro X hP hw hK hc i pins s σ H E I hf st hg
    subst hP hw hK
    obtain ⟨f0, f1, f2, f3, f4, f5⟩ := hf it (by simp)
    exact wpAny_pyNext_range_end (I.ok.hd hc) st (by have : n ≤ i := hg; omega) fun h' eb => ⟨rfl, I.turned (t' := s.toks) (fun b o hb e => eb b o hb e) f0 f1 f3 f4 f5⟩
  self := fun _ _ _ _ _ st h => wpAny_pyIter_rangeiter st h
end L2

namespace L2
open PySem PySem.Spec PyProof.Rows
section
variable {X : Cx} {tg : Expr}
def iList (K : PySem.W.Frag) (tl : TE) : TI := fun σ H R => tl σ H fun x H1 => ∃ a, x = .ref a ∧ (∃ xs, SqL K H1 a xs) ∧ R (Itl K a) H1
def iTup (K : PySem.W.Frag) (tl : TE) : TI := fun σ H R => tl σ H fun x H1 => ∃ a, x = .ref a ∧ (∃ xs, SqT K H1 a xs) ∧ R (Itt K a) H1
theorem pi_list {l : Expr} {tl : TE} (hl : PE X l tl) : PI X tg l (iList X.K tl) := by
  intro pins s σ H R I h
  refine thn (hl pins s σ H _ I h) fun v s1 ⟨x, H1, I1, r1, q1⟩ => ?_
  obtain ⟨a, e, ⟨xs, hq⟩, q⟩ := q1
  subst e
  cases r1
  obtain ⟨its, rv, p, hz⟩ := I1.list hq
  refine wpAny_pyIter_list p.isList ?_
  refine ⟨s1.heap.objs.size, [s1.heap.objs.size], _, _, H1, rfl, I1.kept (t' := s1.toks) fun b o e => Heap.get?_push_of_some _ e, turn_list a _, ⟨_, Heap.get?_push_size _ rfl, rfl, rfl⟩, fun b hb => ?_, q⟩
  have e : b = s1.heap.objs.size := by simpa using hb
  subst e
  exact I1.fpOk (Nat.le_refl _) (I1.hok.fresh (Nat.le_refl _))
theorem pi_tup {l : Expr} {tl : TE} (hl : PE X l tl) : PI X tg l (iTup X.K tl) := by
  intro pins s σ H R I h
  refine thn (hl pins s σ H _ I h) fun v s1 ⟨x, H1, I1, r1, q1⟩ => ?_
  obtain ⟨a, e, ⟨xs, hq⟩, q⟩ := q1
  subst e
  cases r1
  obtain ⟨its, rv, p, hz⟩ := I1.tuple hq
  refine wpAny_pyIter_tuple (show s1.heap.IsTuple a its.toArray from p) ?_
  refine ⟨s1.heap.objs.size, [s1.heap.objs.size], _, _, H1, rfl, I1.kept (t' := s1.toks) fun b o e => Heap.get?_push_of_some _ e, turn_tuple a _, ⟨_, Heap.get?_push_size _ rfl, rfl, rfl⟩, fun b hb => ?_, q⟩
  have e : b = s1.heap.objs.size := by simpa using hb
  subst e
  exact I1.fpOk (Nat.le_refl _) (I1.hok.fresh (Nat.le_refl _))
/-- a range object just made, walked -/
theorem range_it {pins : List (Addr × Obj)} {σ : St} {H : Hp} {s : Shared} {R : It → Hp → Prop} {E : Value → Shared → Prop} {lo hi : Int} {t u v : Tok} {tk : Nat} (I : Inv X pins σ H s) (h1 : -(2 ^ 62) ≤ lo) (h2 : lo < 2 ^ 62) (h3 : -(2 ^ 62) ≤ hi) (h4 : hi < 2 ^ 62)
    (q : R (Itr lo (hi - lo).toNat) H) : wpAny (model X.prog X.w) X.A (pyIter (.ref s.heap.objs.size)) (PIE X pins σ tg R) E { s with heap := s.heap.push { cls := .type "range", data := .fields #[.int lo t, .int hi u, .int 1 v] }, toks := tk } := by
  refine wpAny_pyIter_range (IsRange.new ..) (small_one h1 h2 h3 h4) ?_
  have I1 : Inv X pins σ H { s with heap := s.heap.push { cls := .type "range", data := .fields #[.int lo t, .int hi u, .int 1 v] }, toks := tk } := I.kept fun b o e => Heap.get?_push_of_some _ e
  refine ⟨(s.heap.push { cls := .type "range", data := .fields #[.int lo t, .int hi u, .int 1 v] }).objs.size, [(s.heap.push { cls := .type "range", data := .fields #[.int lo t, .int hi u, .int 1 v] }).objs.size], _, _, H, rfl,
    I1.kept (t' := tk) fun b o e => Heap.get?_push_of_some _ e, turn_range _ lo (hi - lo).toNat, ?_, fun b hb => ?_, q⟩
  · have e1 : lo + ((0 : Nat) : Int) * 1 = lo := by simp
    have e2 : (((hi - lo).toNat : Nat) : Int) - ((0 : Nat) : Int) = Builtin.Range.rangeSize lo hi 1 := by rw [rangeSize_one]; split <;> omega
    show IsRangeIter _ _ (lo + ((0 : Nat) : Int) * 1) ((((hi - lo).toNat : Nat) : Int) - ((0 : Nat) : Int)) 1
    rw [e1, e2]
    exact Heap.get?_push_size _ rfl
  · have e : b = (s.heap.push { cls := .type "range", data := .fields #[.int lo t, .int hi u, .int 1 v] }).objs.size := by simpa using hb
    subst e
    exact I1.fpOk (Nat.le_refl _) (I1.hok.fresh (Nat.le_refl _))
def iRng1 (ta : TA) : TI := fun σ H R => ta σ H fun vs H1 => ∃ j : Int, vs = [.int j] ∧ -(2 ^ 62) ≤ j ∧ j < 2 ^ 62 ∧ R (Itr 0 j.toNat) H1
theorem pi_range1 {a : Expr} {ta : TA} {p pos : Pos} (hg : Gl X "range") (hm : X.mg "range" = none) (ha : PA X [a] ta) (hs : starEach [a] X.env = [(false, eval a X.env)] := by rfl) : PI X tg (.Call (.Name "range" p) [a] [] pos) (iRng1 ta) := by
  intro pins s σ H R I h
  refine Call_ (ld_blt I hg hm boot_range (PyProof.Rows.callWith_type1 (thn (ha pos pins s σ H _ I h) fun us s1 ⟨vs, H1, I1, r1, q1⟩ => ?_) hs rfl))
  obtain ⟨j, e, q1, q2, q⟩ := q1
  subst e
  cases r1 with
  | cons r rr =>
    cases rr
    obtain ⟨t, rfl⟩ := r
    exact call_range_1 (range_it I1 (by omega) (by omega) q1 q2 (by simpa using q))

/-! ### for -/
/-- W: the invariant by the turn and a measure; N: what the body is to reach -/
def tFor (wi : TI) (g : TG) (tb : TS) : TS := fun D σ H => wi σ H fun J H1 => ∃ W : Nat → Nat → St → Hp → Prop, (∃ m, W 0 m σ H1) ∧ ∀ i m σ H, W i m σ H →
  (J.stop i H ∧ D.nx σ H) ∨ (J.go i H ∧ ∃ N : St → Hp → Prop, (∀ σ' H', N σ' H' → ∃ m', m' < m ∧ W (i + 1) m' σ' H') ∧ ∀ x H', J.yld i H x H' → g x σ H' fun σ2 H2 => tb { D with nx := N, ct := N, bk := D.nx } σ2 H2)
/-- the records at fp as they stand -/
def pinsAt (fp : List Addr) (h : Heap) : List (Addr × Obj) := fp.filterMap fun b => (h.get? b).map fun o => (b, o)
theorem mem_pinsAt {fp : List Addr} {h : Heap} {b : Addr} {o : Obj} (hb : b ∈ fp) (e : h.get? b = some o) : (b, o) ∈ pinsAt fp h := List.mem_filterMap.mpr ⟨b, hb, by rw [e]; rfl⟩
theorem of_pinsAt {fp : List Addr} {h : Heap} {p : Addr × Obj} (hp : p ∈ pinsAt fp h) : p.1 ∈ fp ∧ h.get? p.1 = some p.2 := by
  obtain ⟨b, hb, e⟩ := List.mem_filterMap.mp hp
  cases q : h.get? b with
  | none => rw [q] at e; cases e
  | some o =>
    rw [q] at e
    have e' : (b, o) = p := Option.some.inj e
    subst e'
    exact ⟨hb, q⟩
theorem Inv.pinned {pins : List (Addr × Obj)} {σ : St} {H : Hp} {s : Shared} {fp : List Addr} (I : Inv X pins σ H s) (hf : ∀ b ∈ fp, FpOk X pins H b) (ho : ∀ b ∈ fp, ∃ o, s.heap.get? b = some o ∧ ∀ v, o.data ≠ .cell v) : Inv X (pins ++ pinsAt fp s.heap) σ H s :=
  I.pins_of fun p hp => (List.mem_append.mp hp).elim (fun z => I.pin p (List.mem_append_right _ z)) fun z => by
    obtain ⟨hb, e⟩ := of_pinsAt z
    obtain ⟨f0, f1, f2, _⟩ := hf p.1 hb
    obtain ⟨o, e', d⟩ := ho p.1 hb
    rw [e] at e'; cases e'
    exact ⟨e, f0, f1, f2, d⟩
theorem Inv.unpinned {pins pl : List (Addr × Obj)} {σ : St} {H : Hp} {s : Shared} (I : Inv X (pins ++ pl) σ H s) : Inv X pins σ H s := I.pins_of fun p hp => I.pin p (List.mem_append_right _ (List.mem_append_left _ hp))
theorem ps_for {iter : Expr} {body : List Stmt} {wi : TI} {g : TG} {tb : TS} {pos : Pos} (hp : PassesOwn (model X.prog X.w) X.A X.env X.xe) (hc : X.calm = true) (hi : PI X tg iter wi) (hg : PG X tg g) (hb : PSs X body tb)
    (hs : ∀ x, foldedSetIterable iter X.env x = pure x := by intro _; rfl) : PS X (.For tg iter body [] pos) (tFor wi g tb) := by
  intro pins s σ H D I h
  refine wpAny_For (thn (hi pins s σ H _ I h) fun v s1 h1 => thn h1 fun itv s2 h2 => ?_) hs
  obtain ⟨it, fp, tn, J, H2, e, I2, T, st2, f2, W, ⟨m0, w0⟩, turn⟩ := h2
  subst e
  -- what stays true of the iterator's objects through the loop
  have stat : ∀ {H' : Hp}, (∀ b ∈ fp, H' b = none) → ∀ b ∈ fp, FpOk X pins H' b := fun hn b hb => ⟨hn b hb, (f2 b hb).2⟩
  refine codeAny_forLoop_any (fun n s' => ∃ i σ' H', Inv X pins σ' H' s' ∧ tn i s'.heap ∧ (∀ b ∈ fp, H' b = none) ∧ W i n σ' H') ?_ m0 ⟨0, σ, H2, I2, st2, fun b hb => (f2 b hb).1, w0⟩
  rintro n s3 ⟨i, σ3, H3, I3, st3, fr3, w3⟩
  rcases turn i n σ3 H3 w3 with ⟨stop, qn⟩ | ⟨go, N, hN, step⟩
  · refine wpAny_passesOwn hp (thn (T.done X rfl rfl rfl hc i pins s3 σ3 H3 X.xe I3 (stat fr3) st3 stop) fun r s4 ⟨hr, I4⟩ => ?_)
    subst hr
    exact wpAny_execs_nil ⟨σ3, H3, I4, qn⟩
  · refine wpAny_passesOwn hp (thn (T.item X rfl rfl rfl hc i pins s3 σ3 H3 X.xe I3 (stat fr3) st3 go) fun r s4 ⟨u, hr, h4⟩ => ?_)
    subst hr
    refine wpAny_passesOwn hp (thn h4 fun _ s5 ⟨x, H5, I5, r5, y5, st5, fr5⟩ => ?_)
    have I5' := I5.pinned (stat fr5) (T.obj _ _ st5)
    refine wpAny_passesOwn hp (thn (hg _ s5 σ3 H5 x u _ I5' r5 (step x H5 y5)) fun _ s6 ⟨σ6, H6, I6, q6⟩ => ?_)
    refine wpAny_passesOwn hp (thn (hb _ s6 σ6 H6 _ I6 q6) fun f s7 q7 => ?_)
    have again : ∀ {σ7 : St} {H7 : Hp}, Inv X (pins ++ pinsAt fp s5.heap) σ7 H7 s7 → N σ7 H7 → ∃ m, m < n ∧ ∃ i σ' H', Inv X pins σ' H' s7 ∧ tn i s7.heap ∧ (∀ b ∈ fp, H' b = none) ∧ W i m σ' H' := fun {σ7 H7} I7 n7 => by
      obtain ⟨m', hm, w7⟩ := hN σ7 H7 n7
      refine ⟨m', hm, i + 1, σ7, H7, I7.unpinned, T.keep _ _ _ st5 fun b hb o e => (I7.pin (b, o) (List.mem_append_right _ (List.mem_append_right _ (mem_pinsAt hb e)))).1, fun b hb => ?_, w7⟩
      obtain ⟨o, e, d⟩ := T.obj _ _ st5 b hb
      exact (I7.pin (b, o) (List.mem_append_right _ (List.mem_append_right _ (mem_pinsAt hb e)))).2.1
    cases f with
    | next => obtain ⟨σ7, H7, I7, n7⟩ := q7; exact again I7 n7
    | cont => obtain ⟨σ7, H7, I7, n7⟩ := q7; exact again I7 n7
    | brk => obtain ⟨σ7, H7, I7, q7⟩ := q7; exact ⟨σ7, H7, I7.unpinned, q7⟩
    | ret v => obtain ⟨x7, σ7, H7, I7, r7, q7⟩ := q7; exact ⟨x7, σ7, H7, I7.unpinned, r7, q7⟩
end

/-! ### the forms one uses -/
/-- over a list that the body leaves as it is -/
theorem for_list {K : PySem.W.Frag} {a : Addr} {xs : List V} {g : TG} {tb : TS} {D : Ends} {σ : St} {H : Hp} (Pv : Nat → St → Hp → Prop) (h0 : Pv 0 σ H) (hl : ∀ i σ H, i ≤ xs.length → Pv i σ H → SqL K H a xs)
    (hs : ∀ i x σ H, xs[i]? = some x → Pv i σ H → g x σ H fun σ2 H2 => tb { D with nx := Pv (i + 1), ct := Pv (i + 1), bk := D.nx } σ2 H2) (hd : ∀ σ H, Pv xs.length σ H → D.nx σ H) :
    ∃ W : Nat → Nat → St → Hp → Prop, (∃ m, W 0 m σ H) ∧ ∀ i m σ H, W i m σ H →
      ((Itl K a).stop i H ∧ D.nx σ H) ∨ ((Itl K a).go i H ∧ ∃ N : St → Hp → Prop, (∀ σ' H', N σ' H' → ∃ m', m' < m ∧ W (i + 1) m' σ' H') ∧ ∀ x H', (Itl K a).yld i H x H' → g x σ H' fun σ2 H2 => tb { D with nx := N, ct := N, bk := D.nx } σ2 H2) := by
  refine ⟨fun i m σ H => m = xs.length - i ∧ i ≤ xs.length ∧ Pv i σ H, ⟨xs.length, by simp, Nat.zero_le _, h0⟩, ?_⟩
  rintro i m σ H ⟨rfl, hi, p⟩
  have q := hl i σ H hi p
  by_cases hlt : i < xs.length
  · refine .inr ⟨⟨xs, xs[i], q, by simp [hlt]⟩, Pv (i + 1), fun σ' H' p' => ⟨xs.length - (i + 1), by omega, rfl, hlt, p'⟩, fun x H' y => ?_⟩
    obtain ⟨e, y⟩ := y
    subst e
    exact hs i x σ _ (y xs q) p
  · have e : i = xs.length := by omega
    subst e
    exact .inl ⟨⟨xs, q, Nat.le_refl _⟩, hd σ H p⟩
theorem for_range {lo : Int} {n : Nat} {g : TG} {tb : TS} {D : Ends} {σ : St} {H : Hp} (Pv : Nat → St → Hp → Prop) (h0 : Pv 0 σ H)
    (hs : ∀ i σ H, i < n → Pv i σ H → g (.int (lo + i)) σ H fun σ2 H2 => tb { D with nx := Pv (i + 1), ct := Pv (i + 1), bk := D.nx } σ2 H2) (hd : ∀ σ H, Pv n σ H → D.nx σ H) :
    ∃ W : Nat → Nat → St → Hp → Prop, (∃ m, W 0 m σ H) ∧ ∀ i m σ H, W i m σ H →
      ((Itr lo n).stop i H ∧ D.nx σ H) ∨ ((Itr lo n).go i H ∧ ∃ N : St → Hp → Prop, (∀ σ' H', N σ' H' → ∃ m', m' < m ∧ W (i + 1) m' σ' H') ∧ ∀ x H', (Itr lo n).yld i H x H' → g x σ H' fun σ2 H2 => tb { D with nx := N, ct := N, bk := D.nx } σ2 H2) := by
  refine ⟨fun i m σ H => m = n - i ∧ i ≤ n ∧ Pv i σ H, ⟨n, by simp, Nat.zero_le _, h0⟩, ?_⟩
  rintro i m σ H ⟨rfl, hi, p⟩
  by_cases hlt : i < n
  · refine .inr ⟨hlt, Pv (i + 1), fun σ' H' p' => ⟨n - (i + 1), by omega, rfl, hlt, p'⟩, fun x H' y => ?_⟩
    obtain ⟨e, y⟩ := y
    subst e y
    exact hs i σ _ hlt p
  · have e : i = n := by omega
    subst e
    exact .inl ⟨Nat.le_refl _, hd σ H p⟩
end L2

namespace L2
open PySem PySem.Spec PyProof.Rows

abbrev R2 := V → V → Hp → VK → Prop
/-- a two-place operation on values: f is binaryOp op, inplaceOp op or compareOp op -/
def OpR (X : Cx) (f : Value → Value → Sem Value) (r : R2) : Prop :=
  ∀ (pins : List (Addr × Obj)) (s : Shared) (σ : St) (H : Hp) (x y : V) (v u : Value) (Q : VK), Inv X pins σ H s → RelV x v → RelV y u → r x y H Q →
    wpAny (model X.prog X.w) X.A (f v u) (EP X pins σ Q) X.xe s
/-- a call of a value that is known (a builtin, a type) with values -/
def CallR (X : Cx) (f : Value) (r : List V → Hp → VK → Prop) : Prop :=
  ∀ (pins : List (Addr × Obj)) (s : Shared) (σ : St) (H : Hp) (xs : List V) (us : List Value) (Q : VK), Inv X pins σ H s → Vals xs us → r xs H Q →
    wpAny (model X.prog X.w) X.A (call f us) (EP X pins σ Q) X.xe s
/-- a value's truth -/
def TruR (X : Cx) (r : V → Hp → (Bool → Hp → Prop) → Prop) : Prop :=
  ∀ (pins : List (Addr × Obj)) (s : Shared) (σ : St) (H : Hp) (x : V) (v : Value) (Q : Bool → Hp → Prop), Inv X pins σ H s → RelV x v → r x H Q →
    wpAny (model X.prog X.w) X.A (truthy v) (TP X pins σ Q) X.xe s

def tOp (r : R2) (ta tb : TE) : TE := fun σ H Q => ta σ H fun x H1 => tb σ H1 fun y H2 => r x y H2 Q
/-- ints in, under C, and a value out -/
def rI (C : Int → Int → Prop) (g : Int → Int → V) : R2 := fun x y H Q => ∃ i j, x = .int i ∧ y = .int j ∧ C i j ∧ Q (g i j) H
def rI0 (g : Int → Int → V) : R2 := fun x y H Q => ∃ i j, x = .int i ∧ y = .int j ∧ Q (g i j) H

section
variable {X : Cx} {a b c : Expr} {ta tb tc : TE} {pos : Pos}

theorem binT (ha : PE X a ta) (hb : PE X b tb) {pins : List (Addr × Obj)} {s : Shared} {σ : St} {H : Hp} {R : V → V → Hp → Prop} (I : Inv X pins σ H s)
    (h : ta σ H fun x H1 => tb σ H1 fun y H2 => R x y H2) {Q : Value → Shared → Prop} {f : Value → Value → Sem Value}
    (hf : ∀ v u s2 x y H2, Inv X pins σ H2 s2 → RelV x v → RelV y u → R x y H2 → wpAny (model X.prog X.w) X.A (f v u) Q X.xe s2) :
    wpAny (model X.prog X.w) X.A (eval a X.env) (fun v s₁ => wpAny (model X.prog X.w) X.A (eval b X.env) (fun u s₂ => wpAny (model X.prog X.w) X.A (f v u) Q X.xe s₂) X.xe s₁) X.xe s := by
  refine thn (ha pins s σ H _ I h) fun v s1 ⟨x, H1, I1, r1, q1⟩ => ?_
  refine thn (hb pins s1 σ H1 _ I1 q1) fun u s2 ⟨y, H2, I2, r2, q2⟩ => ?_
  exact hf v u s2 x y H2 I2 r1 r2 q2

theorem pe_op {op : Operator} {r : R2} (ho : OpR X (binaryOp op) r) (ha : PE X a ta) (hb : PE X b tb) : PE X (.BinOp a op b pos) (tOp r ta tb) := by
  intro pins s σ H Q I h
  exact wpAny_BinOp (binT ha hb I h fun v u s2 x y H2 I2 rx ry q => ho pins s2 σ H2 x y v u Q I2 rx ry q)

/-! ### ints -/
theorem opI {f : Value → Value → Sem Value} {C : Int → Int → Prop} {g : Int → Int → Int}
    (rule : ∀ (i j : Int) (t u : Tok) (s : Shared) (Q : Value → Shared → Prop) (E : Value → Shared → Prop), C i j → Q (.int (g i j) s.toks) { s with toks := s.toks + 1 } → wpAny (model X.prog X.w) X.A (f (.int i t) (.int j u)) Q E s) :
    OpR X f (rI C fun i j => .int (g i j)) := by
  intro pins s σ H x y v u Q I rx ry h
  obtain ⟨i, j, rfl, rfl, hc, q⟩ := h
  obtain ⟨t, rfl⟩ := rx
  obtain ⟨t', rfl⟩ := ry
  exact rule i j t t' s _ _ hc ⟨.int (g i j), H, I.tok _, ⟨_, rfl⟩, q⟩
theorem opI0 {f : Value → Value → Sem Value} {g : Int → Int → Int}
    (rule : ∀ (i j : Int) (t u : Tok) (s : Shared) (Q : Value → Shared → Prop) (E : Value → Shared → Prop), Q (.int (g i j) s.toks) { s with toks := s.toks + 1 } → wpAny (model X.prog X.w) X.A (f (.int i t) (.int j u)) Q E s) :
    OpR X f (rI0 fun i j => .int (g i j)) := by
  intro pins s σ H x y v u Q I rx ry h
  obtain ⟨i, j, rfl, rfl, q⟩ := h
  obtain ⟨t, rfl⟩ := rx
  obtain ⟨t', rfl⟩ := ry
  exact rule i j t t' s _ _ ⟨.int (g i j), H, I.tok _, ⟨_, rfl⟩, q⟩
theorem opB0 {f : Value → Value → Sem Value} {g : Int → Int → Bool}
    (rule : ∀ (i j : Int) (t u : Tok) (s : Shared) (Q : Value → Shared → Prop) (E : Value → Shared → Prop), Q (.bool (g i j)) s → wpAny (model X.prog X.w) X.A (f (.int i t) (.int j u)) Q E s) :
    OpR X f (rI0 fun i j => .bl (g i j)) := by
  intro pins s σ H x y v u Q I rx ry h
  obtain ⟨i, j, rfl, rfl, q⟩ := h
  obtain ⟨t, rfl⟩ := rx
  obtain ⟨t', rfl⟩ := ry
  exact rule i j t t' s _ _ ⟨.bl (g i j), H, I, rfl, q⟩

def CPow (i j : Int) : Prop := 0 ≤ j ∧ j ≤ 1000000 ∧ i.natAbs < 2 ^ 64
def CMul (i j : Int) : Prop := (-(2 ^ 64) < i ∧ i < 2 ^ 64) ∨ (-(2 ^ 64) < j ∧ j < 2 ^ 64)
theorem CMul.ok {i j : Int} (h : CMul i j) : IntMulOk i j := by
  rcases h with ⟨h1, h2⟩ | ⟨h1, h2⟩
  · exact .of_left (intBits_le_64 h1 h2)
  · exact .of_right (intBits_le_64 h1 h2)
theorem two_pow_nn (k : Nat) : (0 : Int) ≤ 2 ^ k := by
  rw [two_pow_cast]
  exact Int.natCast_nonneg _

theorem op_add : OpR X (binaryOp .Add) (rI0 fun i j => .int (i + j)) := opI0 fun _ _ _ _ _ _ _ q => add_int q
theorem op_sub : OpR X (binaryOp .Sub) (rI0 fun i j => .int (i - j)) := opI0 fun _ _ _ _ _ _ _ q => sub_int q
theorem op_shl : OpR X (binaryOp .LShift) (rI CPow fun i j => .int (i * 2 ^ j.toNat)) := opI fun _ _ _ _ _ _ _ hc q => lshift_int_small hc.1 hc.2.1 hc.2.2 q
theorem op_shr : OpR X (binaryOp .RShift) (rI (fun _ j => 0 ≤ j) fun i j => .int (i / 2 ^ j.toNat)) := opI fun i j _ _ _ _ _ hc q =>
  rshift_int hc (by rw [Int.fdiv_eq_ediv_of_nonneg i (two_pow_nn _)]; exact q)
theorem op_and : OpR X (binaryOp .BitAnd) (rI0 fun i j => .int (Builtin.bitAnd i j)) := opI0 fun _ _ _ _ _ _ _ q => and_int q
theorem op_or : OpR X (binaryOp .BitOr) (rI0 fun i j => .int (Builtin.bitOr i j)) := opI0 fun _ _ _ _ _ _ _ q => or_int q
theorem op_xor : OpR X (binaryOp .BitXor) (rI0 fun i j => .int (Builtin.bitXor i j)) := opI0 fun _ _ _ _ _ _ _ q => xor_int q



/-! ### bools among ints: n += (a < b) -/
end

/-! ### comparisons -/
/-- the scalars that == tells apart as data does -/
def scal : V → V → Bool
  | .non, .non => true | .non, .int _ => true | .int _, .non => true | .non, .bl _ => true | .bl _, .non => true | .non, .str _ => true | .str _, .non => true
  | .int _, .int _ => true | .bl _, .bl _ => true | .str _, .str _ => true | .byt _, .byt _ => true
  | .int _, .str _ => true | .str _, .int _ => true | .bl _, .str _ => true | .str _, .bl _ => true
  | _, _ => false
def rEq : R2 := fun x y H Q => scal x y = true ∧ Q (.bl (decide (x = y))) H
def rNe : R2 := fun x y H Q => scal x y = true ∧ Q (.bl (!decide (x = y))) H

theorem dec_int {i j : Int} : decide (V.int i = V.int j) = (i == j) := by
  rw [Bool.eq_iff_iff]
  simp
theorem dec_bl {i j : Bool} : decide (V.bl i = V.bl j) = (i == j) := by
  rw [Bool.eq_iff_iff]
  simp
theorem dec_str {i j : Str} : decide (V.str i = V.str j) = (i == j) := by
  rw [Bool.eq_iff_iff]
  simp
theorem dec_byt {i j : Array UInt8} : decide (V.byt i = V.byt j) = (i.toList == j.toList) := by
  rw [Bool.eq_iff_iff]
  cases i
  cases j
  simp

section
variable {X : Cx} {a b c : Expr} {ta tb tc : TE} {pos : Pos}
theorem fin_bl {pins : List (Addr × Obj)} {σ : St} {H : Hp} {s : Shared} {Q : VK} {k k' : Bool} (I : Inv X pins σ H s) (q : Q (.bl k) H) (e : k = k') : EP X pins σ Q (.bool k') s := by
  subst e
  exact ⟨.bl k, H, I, rfl, q⟩
theorem op_eq : OpR X (compareOp .Eq) rEq := by
  intro pins s σ H x y v u Q I rx ry h
  obtain ⟨hs, q⟩ := h
  cases x with
  | non =>
    cases rx
    cases y with
    | non => cases ry; exact PySem.EqNone.eq_none_none (fin_bl I q (by simp))
    | bl j => cases ry; exact PySem.EqNone.eq_none_bool (fin_bl I q (by simp))
    | int j => obtain ⟨t', rfl⟩ := ry; exact PySem.EqNone.eq_none_int (fin_bl I q (by simp))
    | str j => obtain ⟨t', rfl⟩ := ry; exact PySem.EqNone.eq_none_str (fin_bl I q (by simp))
    | _ => exact absurd (show false = true from hs) Bool.false_ne_true
  | bl i =>
    cases rx
    cases y with
    | non => cases ry; exact PySem.EqNone.eq_bool_none (fin_bl I q (by simp))
    | bl j => cases ry; exact eq_bool (fin_bl I q dec_bl)
    | str j => obtain ⟨t', rfl⟩ := ry; exact PySem.EqMixed.eq_bool_str (fin_bl I q (by simp))
    | _ => exact absurd (show false = true from hs) Bool.false_ne_true
  | int i =>
    obtain ⟨t, rfl⟩ := rx
    cases y with
    | non => cases ry; exact PySem.EqNone.eq_int_none (fin_bl I q (by simp))
    | int j => obtain ⟨t', rfl⟩ := ry; exact eq_int (fin_bl I q dec_int)
    | str j => obtain ⟨t', rfl⟩ := ry; exact PySem.EqMixed.eq_int_str (fin_bl I q (by simp))
    | _ => exact absurd (show false = true from hs) Bool.false_ne_true
  | str i =>
    obtain ⟨t, rfl⟩ := rx
    cases y with
    | non => cases ry; exact PySem.EqNone.eq_str_none (fin_bl I q (by simp))
    | bl j => cases ry; exact PySem.EqMixed.eq_str_bool (fin_bl I q (by simp))
    | int j => obtain ⟨t', rfl⟩ := ry; exact PySem.EqMixed.eq_str_int (fin_bl I q (by simp))
    | str j => obtain ⟨t', rfl⟩ := ry; exact eq_str (fin_bl I q dec_str)
    | _ => exact absurd (show false = true from hs) Bool.false_ne_true
  | byt i =>
    obtain ⟨t, rfl⟩ := rx
    cases y with
    | byt j => obtain ⟨t', rfl⟩ := ry; exact PySem.W.eq_bytes (fin_bl I q dec_byt)
    | _ => exact absurd (show false = true from hs) Bool.false_ne_true
  | _ => cases y <;> exact absurd (show false = true from hs) Bool.false_ne_true
theorem op_ne : OpR X (compareOp .NotEq) rNe := by
  intro pins s σ H x y v u Q I rx ry h
  obtain ⟨hs, q⟩ := h
  cases x with
  | non =>
    cases rx
    cases y with
    | non => cases ry; exact PySem.EqNone.ne_none_none (fin_bl I q (by simp))
    | bl j => cases ry; exact PySem.EqNone.ne_none_bool (fin_bl I q (by simp))
    | int j => obtain ⟨t', rfl⟩ := ry; exact PySem.EqNone.ne_none_int (fin_bl I q (by simp))
    | str j => obtain ⟨t', rfl⟩ := ry; exact PySem.EqNone.ne_none_str (fin_bl I q (by simp))
    | _ => exact absurd (show false = true from hs) Bool.false_ne_true
  | bl i =>
    cases rx
    cases y with
    | non => cases ry; exact PySem.EqNone.ne_bool_none (fin_bl I q (by simp))
    | bl j => cases ry; exact ne_bool (fin_bl I q (congrArg not dec_bl))
    | str j => obtain ⟨t', rfl⟩ := ry; exact PySem.EqMixed.ne_bool_str (fin_bl I q (by simp))
    | _ => exact absurd (show false = true from hs) Bool.false_ne_true
  | int i =>
    obtain ⟨t, rfl⟩ := rx
    cases y with
    | non => cases ry; exact PySem.EqNone.ne_int_none (fin_bl I q (by simp))
    | int j => obtain ⟨t', rfl⟩ := ry; exact ne_int (fin_bl I q (congrArg not dec_int))
    | str j => obtain ⟨t', rfl⟩ := ry; exact PySem.EqMixed.ne_int_str (fin_bl I q (by simp))
    | _ => exact absurd (show false = true from hs) Bool.false_ne_true
  | str i =>
    obtain ⟨t, rfl⟩ := rx
    cases y with
    | non => cases ry; exact PySem.EqNone.ne_str_none (fin_bl I q (by simp))
    | bl j => cases ry; exact PySem.EqMixed.ne_str_bool (fin_bl I q (by simp))
    | int j => obtain ⟨t', rfl⟩ := ry; exact PySem.EqMixed.ne_str_int (fin_bl I q (by simp))
    | str j => obtain ⟨t', rfl⟩ := ry; exact ne_str (fin_bl I q (congrArg not dec_str))
    | _ => exact absurd (show false = true from hs) Bool.false_ne_true
  | byt i =>
    obtain ⟨t, rfl⟩ := rx
    cases y with
    | byt j => obtain ⟨t', rfl⟩ := ry; exact PySem.W.ne_bytes (fin_bl I q (congrArg not dec_byt))
    | _ => exact absurd (show false = true from hs) Bool.false_ne_true
  | _ => cases y <;> exact absurd (show false = true from hs) Bool.false_ne_true

theorem op_lt : OpR X (compareOp .Lt) (rI0 fun i j => .bl (decide (i < j))) := opB0 fun _ _ _ _ _ _ _ q => lt_int q
theorem op_le : OpR X (compareOp .LtE) (rI0 fun i j => .bl (decide (i ≤ j))) := opB0 fun _ _ _ _ _ _ _ q => le_int q
theorem op_gt : OpR X (compareOp .Gt) (rI0 fun i j => .bl (decide (j < i))) := opB0 fun _ _ _ _ _ _ _ q => gt_int q
theorem op_ge : OpR X (compareOp .GtE) (rI0 fun i j => .bl (decide (j ≤ i))) := opB0 fun _ _ _ _ _ _ _ q => ge_int q



/-- two rules for one operation: by cases -/
theorem OpR.or {f : Value → Value → Sem Value} {r r' : R2} (h : OpR X f r) (h' : OpR X f r') : OpR X f (fun x y H Q => r x y H Q ∨ r' x y H Q) := by
  intro pins s σ H x y v u Q I rx ry q
  rcases q with q | q
  · exact h pins s σ H x y v u Q I rx ry q
  · exact h' pins s σ H x y v u Q I rx ry q

theorem nomark (b : Expr) {op : CmpOp} (h : op ≠ .In := by decide) (h2 : op ≠ .NotIn := by decide) : behindInMarks op b = false := by
  have e1 : (op == CmpOp.In) = false := by cases op <;> first | rfl | exact absurd rfl h
  have e2 : (op == CmpOp.NotIn) = false := by cases op <;> first | rfl | exact absurd rfl h2
  cases b <;> simp [behindInMarks, e1, e2]
/-- a comparison as a value; hm: nomark b, or (for in, not in) by with_unfolding_all rfl -/
theorem pe_cmpR {op : CmpOp} {r : R2} (ho : OpR X (compareOp op) r) (ha : PE X a ta) (hb : PE X b tb) (hm : behindInMarks op b = false) : PE X (.Compare a [op] [b] pos) (tOp r ta tb) := by
  intro pins s σ H Q I h
  exact wpAny_Compare1 (binT ha hb I h fun v u s2 x y H2 I2 rx ry q => ho pins s2 σ H2 x y v u Q I2 rx ry q) hm
/-- a reading of a value as a test -/
def tTest (t : TE) : TT := fun σ H Q => t σ H fun x H' => ∃ k, x = .bl k ∧ Q k H'
theorem pt_cmpR {op : CmpOp} {r : R2} (ho : OpR X (compareOp op) r) (ha : PE X a ta) (hb : PE X b tb) (hm : behindInMarks op b = false) : PT X (.Compare a [op] [b] pos) (tTest (tOp r ta tb)) := by
  intro pins s σ H Q I h
  refine wpAny_isTrue_Compare1 (thn (ha pins s σ H _ I h) fun v s1 ⟨x, H1, I1, r1, q1⟩ => thn (hb pins s1 σ H1 _ I1 q1) fun u s2 ⟨y, H2, I2, r2, q2⟩ =>
    thn (ho pins s2 σ H2 x y v u _ I2 r1 r2 q2) fun c s3 ⟨z, H3, I3, r3, k, e, q3⟩ => ?_) hm
  subst e
  cases r3
  exact wpAny_truthy_bool ⟨H3, I3, q3⟩

/-! ### truth -/
/-- a value's truth by the abstract heap -/
def TruV (K : PySem.W.Frag) (x : V) (H : Hp) (k : Bool) : Prop :=
  match x with
  | .non => k = false
  | .bl b => k = b
  | .int i => k = (i != 0)
  | .str y => y.length ≤ sizeLine ∧ k = ((y.length : Int) != 0)
  | .byt y => y.size ≤ sizeLine ∧ k = ((y.size : Int) != 0)
  | .ref p => (∃ xs, SqL K H p xs ∧ k = !xs.isEmpty) ∨ (∃ xs, SqT K H p xs ∧ k = !xs.isEmpty) ∨ ∃ kvs, H p = some (.dK kvs) ∧ k = !kvs.isEmpty
  | _ => False
theorem isEmpty_kv {κ : Type} {kvs : List (κ × V)} {vs : List (κ × Value)} (r : KV kvs vs) : (!vs.isEmpty) = !kvs.isEmpty := by
  cases r <;> rfl
theorem isEmpty_of {xs : List V} {its : List Value} (r : Vals xs its) : (!its.toArray.isEmpty) = !xs.isEmpty := by
  cases r <;> simp
theorem line63 : (sizeLine : Nat) < 2 ^ 63 := by rw [sizeLine_eq]; decide
theorem tru_ok : TruR X (fun x H Q => ∃ k, TruV X.K x H k ∧ Q k H) := by
  intro pins s σ H x v Q I rx h
  obtain ⟨k, e, q⟩ := h
  have hl := line63
  have hs : sizeLine = 16777216 := sizeLine_eq
  cases x with
  | non =>
    cases rx
    have e' : k = false := e
    subst e'
    exact truthy_none ⟨H, I, q⟩
  | bl b =>
    cases rx
    have e' : k = b := e
    subst e'
    exact wpAny_truthy_bool ⟨H, I, q⟩
  | int i =>
    obtain ⟨t, rfl⟩ := rx
    have e' : k = (i != 0) := e
    subst e'
    exact PySem.P.truthy_int ⟨H, I, q⟩
  | str y =>
    obtain ⟨t, rfl⟩ := rx
    obtain ⟨hy, e'⟩ : y.length ≤ sizeLine ∧ k = ((y.length : Int) != 0) := e
    subst e'
    exact PySem.P.truthy_str (by omega) ⟨H, I.tok _, q⟩
  | byt y =>
    obtain ⟨t, rfl⟩ := rx
    obtain ⟨hy, e'⟩ : y.size ≤ sizeLine ∧ k = ((y.size : Int) != 0) := e
    subst e'
    exact PySem.W.truthy_bytes (by omega) ⟨H, I.tok _, q⟩
  | ref p =>
    cases rx
    have e' : (∃ xs, SqL X.K H p xs ∧ k = !xs.isEmpty) ∨ (∃ xs, SqT X.K H p xs ∧ k = !xs.isEmpty) ∨ ∃ kvs, H p = some (.dK kvs) ∧ k = !kvs.isEmpty := e
    rcases e' with ⟨xs, hx, e'⟩ | ⟨xs, hx, e'⟩ | ⟨kvs, hx, e'⟩
    · subst e'
      obtain ⟨its, r, pl, hz⟩ := I.list hx
      have hlen := r.length
      exact wpAny_truthy_list pl.isList (by simp only [List.size_toArray]; omega) ⟨H, I.tok _, by rw [isEmpty_of r]; exact q⟩
    · subst e'
      obtain ⟨its, r, pl, hz⟩ := I.tuple hx
      have hlen := r.length
      exact truthy_tuple pl (by simp only [List.size_toArray]; omega) ⟨H, I.tok _, by rw [isEmpty_of r]; exact q⟩
    · subst e'
      obtain ⟨hz, hS, vs, r, m⟩ : kvs.length ≤ sizeLine ∧ (p == sysModules) = false ∧ ∃ vs, KV kvs vs ∧ s.heap.DictOf (mixKind X.prog X.w) p vs := I.hok p _ hx
      have hlen : kvs.length = vs.length := Paired.length r
      exact wpAny_truthy_dict hS m (by omega) ⟨H, I.tok _, by rw [isEmpty_kv r]; exact q⟩
  | _ => exact (show False from e).elim
/-- any expression whose test is its value's truth (a name, a call, a subscript, a field ..: he by fun _ => rfl) -/
theorem pt_truth (ha : PE X a ta) (he : ∀ whole, isTrue a X.env whole = (do let v ← whole; standAt a.pos; holding [v] (truthy v))) :
    PT X a (fun σ H Q => ta σ H fun x H' => ∃ k, TruV X.K x H' k ∧ Q k H') := by
  intro pins s σ H Q I h
  exact isTrue_plain (thn (ha pins s σ H _ I h) fun v s1 ⟨x, H1, I1, r1, q1⟩ => tru_ok pins s1 σ H1 x v Q I1 r1 q1) (he _)

/-! ### strs and bytes -/


/-! ### scalar builtins, by CallR -/
theorem vals1 {x : V} {us : List Value} (r : Vals [x] us) : ∃ u, us = [u] ∧ RelV x u := by
  cases r with
  | cons r1 r2 => cases r2; exact ⟨_, rfl, r1⟩
theorem vals2 {x y : V} {us : List Value} (r : Vals [x, y] us) : ∃ u w', us = [u, w'] ∧ RelV x u ∧ RelV y w' := by
  cases r with
  | cons r1 r2 =>
    cases r2 with
    | cons r3 r4 => cases r4; exact ⟨_, _, rfl, r1, r3⟩
theorem call_max2 (hc : X.calm = true) : CallR X (.builtin "max") (fun xs H Q => ∃ i j, xs = [.int i, .int j] ∧ Q (.int (if j > i then j else i)) H) := by
  intro pins s σ H xs us Q I r h
  obtain ⟨i, j, rfl, q⟩ := h
  obtain ⟨u, w', rfl, ⟨t, rfl⟩, ⟨t', rfl⟩⟩ := vals2 r
  refine max_two_ints (I.ok.hd hc) fun h' tk k => ⟨_, H, I.kept k, ?_, q⟩
  by_cases hj : j > i
  · rw [if_pos hj, if_pos hj]; exact ⟨_, rfl⟩
  · rw [if_neg hj, if_neg hj]; exact ⟨_, rfl⟩
theorem call_min2 (hc : X.calm = true) : CallR X (.builtin "min") (fun xs H Q => ∃ i j, xs = [.int i, .int j] ∧ Q (.int (if j < i then j else i)) H) := by
  intro pins s σ H xs us Q I r h
  obtain ⟨i, j, rfl, q⟩ := h
  obtain ⟨u, w', rfl, ⟨t, rfl⟩, ⟨t', rfl⟩⟩ := vals2 r
  refine min_two_ints (I.ok.hd hc) fun h' tk k => ⟨_, H, I.kept k, ?_, q⟩
  by_cases hj : j < i
  · rw [if_pos hj, if_pos hj]; exact ⟨_, rfl⟩
  · rw [if_neg hj, if_neg hj]; exact ⟨_, rfl⟩
end
end L2

namespace L2
open PySem PySem.Spec PyProof.Rows

/-! ### an instance, its attributes a map -/
structure ObjM (h : Heap) (x dx C : Addr) (mA : Str → Option Value) : Prop where
  obj : h.get? x = some (PySem.W.instObj C dx)
  ns : h.Ns1 dx mA
  ne : dx ≠ x

theorem lookIn_ns {h : Heap} {dx : Addr} {mA : Str → Option Value} (n : h.Ns1 dx mA) : ∃ od, h.get? dx = some od ∧ ∀ name, PySem.W.lookIn name od = some (mA name) := by
  obtain ⟨o, es, ep, ho, hd, hk, _, hm⟩ := n
  refine ⟨o, ho, fun name => ?_⟩
  have e := hm name
  unfold nsFind findBy at e
  rw [← Array.find?_toList] at e
  unfold PySem.W.lookIn
  rw [hd]
  dsimp only
  split
  · rename_i y q
    rw [q] at e
    exact congrArg some e
  · rename_i q
    rw [q] at e
    have a : es.toList.any (·.refKey) = false := by
      rw [List.any_eq_false]
      intro y hy
      obtain ⟨z, t, hkey⟩ := hk y (Array.mem_toList_iff.mp hy)
      simp [DictEntry.refKey, hkey]
    have a' : ¬ es.toList.any (·.refKey) = true := by rw [a]; exact Bool.false_ne_true
    rw [if_neg a']
    exact congrArg some e

theorem ObjM.look {h : Heap} {x dx C : Addr} {mA : Str → Option Value} (I : ObjM h x dx C mA) : ∃ od, PySem.W.InstAt h x (PySem.W.instObj C dx) C (some od) ∧ ∀ name, PySem.W.lookIn name od = some (mA name) :=
  let ⟨od, ho, hl⟩ := lookIn_ns I.ns
  ⟨od, ⟨I.obj, rfl, rfl, ho⟩, hl⟩

section
variable {prog : Program} {w : World} {A : Around} {E : Value → Shared → Prop} {s : Shared} {K : PySem.W.Frag} {x dx C f : Addr} {mA : Str → Option Value} {name : Str} {v : Value}

theorem get_map {expr : Bool} {Q : Value → Shared → Prop} (X : K.In s.heap) (I : ObjM s.heap x dx C mA) (hg : PySem.W.plainGet K C name = true) (hh : PySem.W.hasDictIn K C = true)
    (ha : PySem.W.findIn K (.ref C) name = some none) (hv : mA name = some v) (hv' : PySem.W.handedIn v = true) (h : Q v { s with toks := s.toks + 1 }) :
    wpAny (model prog w) A (getAttr (.ref x) name expr) Q E s := by
  obtain ⟨od, J, hl⟩ := I.look
  exact PySem.W.get_value X J (PySem.W.plainGet_of hg).1 (PySem.W.findObj_own hh ha rfl (by rw [hl, hv])) hv' h


theorem get_meth {pl : Sem Bool} {Q : Value × List Value → Shared → Prop} (X : K.In s.heap) (I : ObjM s.heap x dx C mA) (hg : PySem.W.plainGet K C name = true)
    (hf : PySem.W.findIn K (.ref C) name = some (some (.ref f))) (ht : PySem.W.isFn K (.ref f) = true) (hv : mA name = none) (h : Q (.ref f, [.ref x]) s) :
    wpAny (model prog w) A (getMethod (.ref x) name pl) Q E s := by
  obtain ⟨od, J, hl⟩ := I.look
  exact PySem.W.method_fn X J (PySem.W.plainGet_of hg).1 (PySem.W.plainGet_of hg).2 hf (beq_iff_eq.mp ht) (by show (PySem.W.lookIn name od).map (·.isSome) = some false; rw [hl, hv]; rfl) h

theorem set_map {ns : List Str} {Q : Unit → Shared → Prop} (X : K.In s.heap) (I : ObjM s.heap x dx C mA)
    (hs : PySem.W.findIn K (.ref C) "__setattr__" = some (some (.builtin "object.__setattr__"))) (hp : PySem.W.plainOver K C = true) (ht : PySem.W.takerIn K C name = some none) (hh : PySem.W.hasDictIn K C = true)
    (hw : PySem.Within mA ns) (hsz : ns.length ≤ sizeLine)
    (h : ∀ h', ObjM h' x dx C (fun y => if y = name then some v else mA y) → Heap.SameBut dx s.heap h' → Q () { s with heap := h', toks := s.toks + 2 }) :
    wpAny (model prog w) A (setAttr (.ref x) name v) Q E s := by
  obtain ⟨od, J, hl⟩ := I.look
  refine PySem.W.set_plain X J hs (PySem.W.osa_open (s := { s with toks := s.toks + 1 }) (r := none) X J hp ht fun b => ?_)
  obtain ⟨cd, hc, hd'⟩ := PySem.W.any_some hh
  have hx : s.heap.get? x = some ⟨.ref C, some dx, .plain, #[]⟩ := I.obj
  refine wpAny_bind (wpAny_pure (wpAny_bind (wpAny_bind (wpAny_loadPart hx (wpAny_bind (PySem.W.Looks.here (s := { s with toks := s.toks + 1 }) (PySem.W.looks_clsIn X hc) ?_))))))
  rw [hd']
  refine wpAny_pure (a := some dx) (wpAny_bind (wpAny_pure (wpAny_bind ?_)))
  refine wpAny_nsSet1 (s := { s with toks := s.toks + 1 }) I.ns fun h' hn2 hs2 => ?_
  obtain ⟨oD, esD, epD, hoD, hdD, hcD⟩ := hn2.count (PySem.Within.cons name v hw)
  refine wpAny_bind (wpAny_lookBehind hoD (by rw [hdD]; exact pastItsLine_dict (Nat.le_trans hcD (by rw [List.length_cons]; omega))) ?_)
  exact wpAny_pure (h _ ⟨(hs2.2 _ (Ne.symm I.ne)).trans I.obj, hn2, I.ne⟩ hs2)

/-- C(..): the dict at the heap's end, the instance behind it; then its __init__ -/
theorem make_map {R : Result → Shared → Prop} {vs : List Value} {kw : List (Str × Value)} (X : K.In s.heap) (hm : PySem.W.makesIn K C = true)
    (hi : PySem.W.findIn K (.ref C) "__init__" = some (some (.ref f))) (hf : PySem.W.typeIn K (.ref f) = some (.type "function"))
    (h : codeAny (model prog w) (A.under (.builtin "type.__call__" ⟨.ref C :: vs, kw⟩)) (.call (.ref f) ⟨.ref (s.heap.objs.size + 1) :: vs, kw⟩) (PySem.W.InitBack (s.heap.objs.size + 1) R)
      { s with heap := (s.heap.push PySem.W.emptyDict).push (PySem.W.instObj C s.heap.objs.size) }) :
    codeAny (model prog w) A (.call (.ref C) ⟨vs, kw⟩) R s := by
  obtain ⟨hh, g, d, t, os⟩ := s
  exact PySem.W.make_core (PySem.W.makes_of X hm) (PySem.W.looks_findIn X hi) (fun self => PySem.W.bind_fn X self hf) (.inl rfl) h
end

/-! ### the attributes as a list of pairs -/
def putF (f : Str) (v : V) : List (Str × V) → List (Str × V)
  | [] => [(f, v)]
  | (g, x) :: r => if g = f then (g, v) :: r else (g, x) :: putF f v r
theorem lookup_putF (f g : Str) (v : V) : ∀ fs : List (Str × V), (putF f v fs).lookup g = if g = f then some v else fs.lookup g
  | [] => by
    show List.lookup g [(f, v)] = _
    by_cases h : g = f
    · have hb : (g == f) = true := beq_iff_eq.mpr h
      simp only [List.lookup, hb, if_pos h]
    · have hb : (g == f) = false := beq_eq_false_iff_ne.mpr h
      simp only [List.lookup, hb, if_neg h]
  | (k, x) :: r => by
    have ih := lookup_putF f g v r
    rw [show putF f v ((k, x) :: r) = (if k = f then (k, v) :: r else (k, x) :: putF f v r) from rfl]
    by_cases hk : k = f
    · rw [if_pos hk]
      by_cases h : g = k
      · have hb : (g == k) = true := beq_iff_eq.mpr h
        simp only [List.lookup, hb, if_pos (h.trans hk)]
      · have hb : (g == k) = false := beq_eq_false_iff_ne.mpr h
        simp only [List.lookup, hb, if_neg (fun e : g = f => h (e.trans hk.symm))]
    · rw [if_neg hk]
      by_cases h : g = k
      · have hb : (g == k) = true := beq_iff_eq.mpr h
        simp only [List.lookup, hb, if_neg (fun e : g = f => hk (h.symm.trans e))]
      · have hb : (g == k) = false := beq_eq_false_iff_ne.mpr h
        simp only [List.lookup, hb]
        exact ih
theorem keys_putF (f : Str) (v : V) : ∀ fs : List (Str × V), f ∈ (putF f v fs).map (·.1) ∧ ∀ g, g ∈ fs.map (·.1) → g ∈ (putF f v fs).map (·.1)
  | [] => ⟨by simp [putF], fun g h => by simp at h⟩
  | (k, x) :: r => by
    obtain ⟨i1, i2⟩ := keys_putF f v r
    rw [show putF f v ((k, x) :: r) = (if k = f then (k, v) :: r else (k, x) :: putF f v r) from rfl]
    by_cases hk : k = f
    · rw [if_pos hk]
      subst hk
      exact ⟨by simp, fun g h => by simpa using h⟩
    · rw [if_neg hk]
      refine ⟨?_, fun g h => ?_⟩
      · rw [List.map_cons]
        exact List.mem_cons_of_mem _ i1
      · rw [List.map_cons] at h ⊢
        rcases List.mem_cons.mp h with e | e
        · exact List.mem_cons.mpr (.inl e)
        · exact List.mem_cons_of_mem _ (i2 g e)
theorem length_putF (f : Str) (v : V) : ∀ fs : List (Str × V), (putF f v fs).length ≤ fs.length + 1
  | [] => by simp [putF]
  | (k, x) :: r => by
    have ih := length_putF f v r
    rw [show putF f v ((k, x) :: r) = (if k = f then (k, v) :: r else (k, x) :: putF f v r) from rfl]
    by_cases hk : k = f
    · rw [if_pos hk, List.length_cons, List.length_cons]; omega
    · rw [if_neg hk, List.length_cons, List.length_cons]; omega

theorem RelO.some_of {v : V} {o : Option Value} (r : RelO (some v) o) : ∃ u, o = some u ∧ RelV v u := by
  cases o with
  | none => exact (show False from r).elim
  | some u => exact ⟨u, rfl, r⟩
theorem RelO.none_of {o : Option Value} (r : RelO none o) : o = none := by
  cases o with
  | none => rfl
  | some u => exact (show False from r).elim
theorem handed_of {v : V} {u : Value} (r : RelV v u) : PySem.W.handedIn u = true := by
  cases v with
  | non => cases (show u = Value.none from r); rfl
  | bl b => cases (show u = Value.bool b from r); rfl
  | int i => obtain ⟨t, e⟩ := (show ∃ t, u = Value.int i t from r); cases e; rfl
  | str x => obtain ⟨t, e⟩ := (show ∃ t, u = Value.str x t from r); cases e; rfl
  | byt b => obtain ⟨t, e⟩ := (show ∃ t, u = Value.bytes b t from r); cases e; rfl
  | flt b => obtain ⟨t, e⟩ := (show ∃ t, u = Value.float b t from r); cases e; rfl
  | ref a => cases (show u = Value.ref a from r); rfl
  | ty n => cases (show u = Value.type n from r); rfl

section
variable {P : Program} {w : World} {H H' : Hp} {h h' : Heap} {a C dx : Addr} {fs fs' : List (Str × V)}
theorem ins_get (hok : HOk P w H h) (e : H a = some (.ins C dx fs)) : ∃ mA, ObjM h a dx C mA ∧ (∀ f, RelO (fs.lookup f) (mA f)) ∧ PySem.Within mA (fs.map (·.1)) ∧ fs.length ≤ 1000 ∧ H dx = some (.own a) := by
  obtain ⟨d, z, ne, ob, mA, n, r, q⟩ := (show ObjOk P w H h a (.ins C dx fs) from hok a _ e)
  exact ⟨mA, ⟨ob, n, ne⟩, r, q, z, d⟩
end

/-! ### what of the text a class must have -/
structure Cls (K : PySem.W.Frag) (C : Addr) : Prop where
  pg : PySem.W.plainGet K C Str.empty = true
  hd : PySem.W.hasDictIn K C = true
  po : PySem.W.plainOver K C = true
  sa : PySem.W.findIn K (.ref C) "__setattr__" = some (some (.builtin "object.__setattr__"))
theorem Cls.get {K : PySem.W.Frag} {C : Addr} (c : Cls K C) (f : Str) : PySem.W.plainGet K C f = true := c.pg
/-- no class of it has the name -/
def NoAttr (K : PySem.W.Frag) (C : Addr) (f : Str) : Prop := PySem.W.findIn K (.ref C) f = some none
theorem NoAttr.taker {K : PySem.W.Frag} {C : Addr} {f : Str} (n : NoAttr K C f) : PySem.W.takerIn K C f = some none := by
  unfold PySem.W.takerIn
  rw [show PySem.W.findIn K (.ref C) f = some none from n]
  rfl
/-- a constant of the class -/
structure Con (K : PySem.W.Frag) (C : Addr) (f : Str) (v : V) (u : Value) : Prop where
  at_ : PySem.W.findIn K (.ref C) f = some (some u)
  rel : RelV v u
  get : PySem.W.specialIn K u "__get__" = some none
  cp : PySem.W.copiedNames.contains f = false
/-- a method: a plain def of the class or of one above it -/
structure Meth (K : PySem.W.Frag) (C : Addr) (m : Str) (f : Addr) : Prop where
  at_ : PySem.W.findIn K (.ref C) m = some (some (.ref f))
  fn : PySem.W.isFn K (.ref f) = true
  kp : PySem.W.keepIn K (.ref f) = true

section
variable {X : Cx} {pins : List (Addr × Obj)} {σ : St} {H : Hp} {s : Shared} {a C dx : Addr} {fs : List (Str × V)} {f : Str} {v : V} {A : Around} {E : Value → Shared → Prop}

theorem getattr_ok {b : Bool} {Q : Value → Shared → Prop} (I : Inv X pins σ H s) (e : H a = some (.ins C dx fs)) (c : Cls X.K C) (n : NoAttr X.K C f) (l : fs.lookup f = some v)
    (h : ∀ u s', Inv X pins σ H s' → RelV v u → Q u s') : wpAny (model X.prog X.w) A (getAttr (.ref a) f b) Q E s := by
  obtain ⟨mA, O, r, _, _, _⟩ := ins_get I.hok e
  obtain ⟨u, hu, ru⟩ := RelO.some_of (v := v) (o := mA f) (by rw [← l]; exact r f)
  exact get_map I.kIn O (c.get f) c.hd n hu (handed_of ru) (h u _ (I.tok _) ru)


theorem getmeth_ok {m : Str} {g : Addr} {pl : Sem Bool} {Q : Value × List Value → Shared → Prop} (I : Inv X pins σ H s) (e : H a = some (.ins C dx fs)) (c : Cls X.K C) (k : Meth X.K C m g) (l : fs.lookup m = none)
    (h : Q (.ref g, [.ref a]) s) : wpAny (model X.prog X.w) A (getMethod (.ref a) m pl) Q E s := by
  obtain ⟨mA, O, r, _, _, _⟩ := ins_get I.hok e
  have hn : mA m = none := RelO.none_of (by rw [← l]; exact r m)
  exact get_meth I.kIn O (c.get m) k.at_ k.fn hn h

theorem setattr_ok {y : V} {u : Value} {Q : Unit → Shared → Prop} (I : Inv X pins σ H s) (e : H a = some (.ins C dx fs)) (c : Cls X.K C) (n : NoAttr X.K C f) (hl : fs.length < 1000) (ry : RelV y u)
    (h : ∀ s', Inv X pins σ (upd H a (.ins C dx (putF f y fs))) s' → Q () s') : wpAny (model X.prog X.w) A (setAttr (.ref a) f u) Q E s := by
  obtain ⟨mA, O, r, wi, _, ho⟩ := ins_get I.hok e
  have hz : (fs.map (·.1)).length ≤ sizeLine := by rw [List.length_map, sizeLine_eq]; omega
  refine set_map I.kIn O c.sa c.po n.taker c.hd wi hz fun h' O' sb => h _ ?_
  have hd : ∃ o, h'.get? dx = some o := let ⟨o, _, _, e', _⟩ := O'.ns; ⟨o, e'⟩
  refine I.write (x := a) (e := dx) (by rw [e]; exact True.intro) (.inr ho) (fun b q hb z => (sb.2 b hb).trans z) hd ?_
  refine ⟨by rw [upd_ne O.ne]; exact ho, ?_, O.ne, O'.obj, _, O'.ns, fun g => ?_, fun g hg => ?_⟩
  · have := length_putF f y fs; omega
  · show RelO ((putF f y fs).lookup g) (if g = f then some u else mA g)
    rw [lookup_putF]
    by_cases q : g = f
    · rw [if_pos q, if_pos q]; exact ry
    · rw [if_neg q, if_neg q]; exact r g
  · by_cases q : g = f
    · rw [q]; exact (keys_putF f y fs).1
    · refine (keys_putF f y fs).2 g (wi g fun z => hg ?_)
      show (if g = f then some u else mA g) = none
      rw [if_neg q]; exact z

/-- a new instance, tracked, without attributes -/
theorem Inv.made (I : Inv X pins σ H s) : Inv X pins σ (upd (upd H s.heap.objs.size (.own (s.heap.objs.size + 1))) (s.heap.objs.size + 1) (.ins C s.heap.objs.size []))
    { s with heap := (s.heap.push PySem.W.emptyDict).push (PySem.W.instObj C s.heap.objs.size) } := by
  have e1 : (s.heap.push PySem.W.emptyDict).get? s.heap.objs.size = some PySem.W.emptyDict := Heap.get?_push_size s.heap rfl
  have e2 : ((s.heap.push PySem.W.emptyDict).push (PySem.W.instObj C s.heap.objs.size)).get? (s.heap.objs.size + 1) = some (PySem.W.instObj C s.heap.objs.size) := by
    have := Heap.get?_push_size (s.heap.push PySem.W.emptyDict) (o := PySem.W.instObj C s.heap.objs.size) rfl
    rwa [Heap.size_push] at this
  have e3 : (s.heap.push PySem.W.emptyDict).Ns s.heap.objs.size (fun _ => none) := ⟨PySem.W.emptyDict, #[], _, e1, rfl, (fun e he => absurd he (by simp)), fun _ => rfl⟩
  have I1 := I.laid (a := s.heap.objs.size) (o := .own (s.heap.objs.size + 1)) (h' := s.heap.push PySem.W.emptyDict) (t' := s.toks) (fun b u q => Heap.get?_push_of_some _ q) (Nat.le_refl _) ⟨_, e1⟩
  refine I1.laid (a := s.heap.objs.size + 1) (o := .ins C s.heap.objs.size []) (t' := s.toks) (fun b u q => Heap.get?_push_of_some _ q) (Nat.le_of_eq (Heap.size_push _ _)) ?_
  have ne : s.heap.objs.size ≠ s.heap.objs.size + 1 := Nat.ne_of_lt (Nat.lt_succ_self _)
  refine ⟨by rw [upd_ne ne, upd_same], Nat.zero_le _, ne, e2, fun _ => none, (Heap.Ns1.of_empty e3).at fun o q => Heap.get?_push_of_some _ q, fun _ => True.intro, fun y hy => absurd rfl hy⟩

/-- e.f where nothing but the object is asked: through attributeBase (super) and the last hold -/
theorem attr_of {prog : Program} {w : World} {env : Env} {e : Expr} {f : Str} {pos : Pos} {s : Shared} {Q : Value → Shared → Prop} (hb : attributeBase e f env (eval e env) = eval e env)
    (h : wpAny (model prog w) A (eval e env) (fun o s₁ => wpAny (model prog w) A (getAttr o f true) Q E s₁) E s) : wpAny (model prog w) A (eval (.Attribute e f pos) env) Q E s :=
  Attribute_any_ h (by rw [arm_eval_Attribute, hb])
end

/-! ### readings and rules -/
/-- e.f, an attribute of the instance -/
def tFld (K : PySem.W.Frag) (ta : TE) (f : Str) : TE := fun σ H Q => ta σ H fun x H1 => ∃ a C dx fs v, x = .ref a ∧ H1 a = some (.ins C dx fs) ∧ Cls K C ∧ NoAttr K C f ∧ fs.lookup f = some v ∧ Q v H1
/-- e.f = value -/
def sFld (K : PySem.W.Frag) (ta tv : TE) (f : Str) : TS := fun D σ H => tv σ H fun y H1 => ta σ H1 fun x H2 => ∃ a C dx fs, x = .ref a ∧ H2 a = some (.ins C dx fs) ∧ Cls K C ∧ NoAttr K C f ∧ fs.length < 1000 ∧
  D.nx σ (upd H2 a (.ins C dx (putF f y fs)))

section
variable {X : Cx} {o e value : Expr} {f : Str} {pos pos' tpos : Pos} {ta tv : TE}
theorem pe_fld (he : PE X e ta) (hb : attributeBase e f X.env (eval e X.env) = eval e X.env) : PE X (.Attribute e f pos) (tFld X.K ta f) := by
  intro pins s σ H Q I h
  refine attr_of hb (thn (he pins s σ H _ I h) fun u s1 ⟨x, H1, I1, rx, a, C, dx, fs, v, ex, ea, c, n, l, q⟩ => ?_)
  subst ex
  obtain rfl : u = Value.ref a := rx
  exact getattr_ok I1 ea c n l fun u' s2 I2 ru => ⟨v, H1, I2, ru, q⟩
theorem ps_fld (ha : PE X o ta) (hv : PE X value tv) (hs : swapsWith value (some (.Attribute o f pos')) pos.line X.env = pure false) : PS X (.Assign [.Attribute o f pos'] value pos) (sFld X.K ta tv f) := by
  intro pins s σ H D I h
  refine plainObj_wpAny_Assign_Attribute (thn (hv pins s σ H _ I h) fun u s1 ⟨y, H1, I1, ry, q⟩ => thn (ha pins s1 σ H1 _ I1 q) fun ov s2 ⟨x, H2, I2, rx, a, C, dx, fs, ex, ea, c, n, l, q2⟩ => ?_) hs
  subst ex
  obtain rfl : ov = Value.ref a := rx
  exact setattr_ok I2 ea c n l ry fun s3 I3 => ⟨σ, _, I3, q2⟩

end

/-! ### isinstance -/
section
variable {X : Cx} {pins : List (Addr × Obj)} {σ : St} {H : Hp} {s : Shared} {A : Around} {E : Value → Shared → Prop} {Q : Value → Shared → Prop} {c : Value} {b : Bool}
/-- the type of a value, as the fragment's deciders take it; for an instance its class -/
inductive TyOf (K : PySem.W.Frag) (H : Hp) : V → Value → Prop where
  | non : TyOf K H .non (.type "NoneType")
  | bl (x : Bool) : TyOf K H (.bl x) (.type "bool")
  | int (i : Int) : TyOf K H (.int i) (.type "int")
  | str (x : Str) : TyOf K H (.str x) (.type "str")
  | flt (x : UInt64) : TyOf K H (.flt x) (.type "float")
  | lst {a : Addr} {xs : List V} (e : H a = some (.lst xs)) : TyOf K H (.ref a) (.type "list")
  | frz {a : Addr} {o : Obj} {xs : List V} (e : H a = some (.frz o (.lst xs))) : TyOf K H (.ref a) (.type "list")
  | tup {a : Addr} {xs : List V} (e : H a = some (.tup xs)) : TyOf K H (.ref a) (.type "tuple")
  | dK {a : Addr} {kvs : List (Key × V)} (e : H a = some (.dK kvs)) : TyOf K H (.ref a) (.type "dict")
  | dT {a : Addr} {kvs : List (List Key × V)} (e : H a = some (.dT kvs)) : TyOf K H (.ref a) (.type "dict")
  | ins {a C dx : Addr} {fs : List (Str × V)} (e : H a = some (.ins C dx fs)) (cl : Cls K C) (ha : PySem.W.findIn K (.ref C) "__class__" = some (some (.builtin "object.__class__")))
      (hn : PySem.W.specialIn K (.builtin "object.__class__") "__get__" = some (some (.builtin "getset_descriptor.__get__"))) (htk : PySem.W.takesIn K (.builtin "object.__class__") = some true)
      (hm : PySem.W.mroIn K C (.type "object") = some true) : TyOf K H (.ref a) (.ref C)
end
end L2

namespace L2
open PySem PySem.Spec PyProof.Rows

/-! ### room -/
structure Room (k : Nat) (A : Around) : Prop where
  hd : A.handled = none
  dp : A.depth + 3 * k + 5 < recursionLimit
  un : A.units + 16 * k + 200 < cLine
theorem Room.mono {j k : Nat} {A : Around} (r : Room k A) (h : j ≤ k) : Room j A := ⟨r.hd, by have := r.dp; omega, by have := r.un; omega⟩
theorem Room.deeper {k : Nat} {A : Around} (r : Room (k + 1) A) (env : Env) : Room k (A.deeper env) :=
  ⟨r.hd, by have := r.dp; show A.depth + 1 + 3 * k + 5 < _; omega, by have := r.un; show A.units + 3 + 16 * k + 200 < _; omega⟩
theorem Room.in1 {k : Nat} {A : Around} (r : Room (k + 1) A) : Room k A.in1 :=
  ⟨r.hd, by have := r.dp; show A.depth + 3 * k + 5 < _; omega, by have := r.un; show A.units + 1 + 16 * k + 200 < _; omega⟩
theorem make_depth {A : Around} {C : Addr} {us : List Value} {kw : List (Str × Value)} : (A.under (.builtin "type.__call__" ⟨.ref C :: us, kw⟩)).depth = A.depth + 1 := by
  first | rfl | simp [Around.under, Code.weight, Code.isCreation, Code.isGuard, Code.isCaller, Code.frames, Code.isFrame, guardIds]
theorem make_units {A : Around} {C : Addr} {us : List Value} {kw : List (Str × Value)} : (A.under (.builtin "type.__call__" ⟨.ref C :: us, kw⟩)).units = A.units + 1 := by
  first | rfl | simp [Around.under, Code.cUnits, Code.frames, Code.isFrame]
theorem Room.make {k : Nat} {A : Around} (r : Room (k + 1) A) (C : Addr) (us : List Value) (kw : List (Str × Value)) : Room k (A.under (.builtin "type.__call__" ⟨.ref C :: us, kw⟩)) :=
  ⟨r.hd, by have := r.dp; rw [make_depth]; omega, by have := r.un; rw [make_units]; omega⟩
theorem Room.depth {k : Nat} {A : Around} (r : Room k A) : A.depth < recursionLimit := by have := r.dp; omega
theorem Room.units {k : Nat} {A : Around} (r : Room k A) : A.units + 64 < cLine := by have := r.un; omega

/-! ### argument lists and displays -/
def tNil : TA := fun _ H Q => Q [] H
def tCons (ta : TE) (tr : TA) : TA := fun σ H Q => ta σ H fun x H1 => tr σ H1 fun xs H2 => Q (x :: xs) H2
section
variable {X : Cx} {e : Expr} {es : List Expr} {te : TE} {t : TA} {pos : Pos}
theorem pa_nil : PA X [] tNil := fun _ _ _ _ H Q I h => Calls.spliced_nil ⟨[], H, I, .nil, h⟩
theorem pa_cons (ha : PE X e te) (hr : PA X es t) (hs : starEach (e :: es) X.env = (false, eval e X.env) :: starEach es X.env := by rfl) : PA X (e :: es) (tCons te t) := by
  intro pos pins s σ H Q I h
  rw [hs]
  show wpAny _ _ (spliced ((false, eval e X.env) :: backTo pos (starEach es X.env))) _ _ s
  refine Calls.spliced_cons (thn (ha pins s σ H _ I h) fun u s1 ⟨x, H1, I1, r1, q1⟩ => ?_)
  exact thn (hr pos pins s1 σ H1 _ I1 q1) fun us s2 ⟨xs, H2, I2, r2, q2⟩ => ⟨x :: xs, H2, I2, .cons r1 r2, q2⟩

/-- a tuple, a list of written items -/
def tTup (t : TA) : TE := fun σ H Q => t σ H fun xs H1 => xs.length ≤ sizeLine ∧ ∀ p, H1 p = none → Q (.ref p) (upd H1 p (.tup xs))
def tLst (t : TA) : TE := fun σ H Q => t σ H fun xs H1 => xs.length ≤ sizeLine ∧ ∀ p, H1 p = none → Q (.ref p) (upd H1 p (.lst xs))
theorem pe_tup {x1} (h : PA X es t) : PE X (.Tuple es x1 pos) (tTup t) := by
  intro pins s σ H Q I hq
  refine wpAny_Tuple_spliced (thn (h pos pins s σ H _ I hq) fun us s1 ⟨xs, H1, I1, r, z, q⟩ => ⟨by rw [← r.length]; exact z, ?_⟩)
  have hf : H1 s1.heap.objs.size = none := I1.hok.fresh (Nat.le_refl _)
  refine ⟨.ref s1.heap.objs.size, upd H1 s1.heap.objs.size (.tup xs), I1.laid (t' := s1.toks) (fun b u e => Heap.get?_push_of_some _ e) (Nat.le_refl _) ?_, rfl, q _ hf⟩
  exact ⟨z, us, r, ⟨_, Heap.get?_push_size _ rfl, rfl, _, rfl⟩⟩
theorem pe_lst (h : PA X es t) : PE X (.List es pos) (tLst t) := by
  intro pins s σ H Q I hq
  refine wpAny_List_spliced (thn (h pos pins s σ H _ I hq) fun us s1 ⟨xs, H1, I1, r, z, q⟩ => ⟨by rw [← r.length]; exact z, ?_⟩)
  have hf : H1 s1.heap.objs.size = none := I1.hok.fresh (Nat.le_refl _)
  refine ⟨.ref s1.heap.objs.size, upd H1 s1.heap.objs.size (.lst xs), I1.laid (t' := s1.toks) (fun b u e => Heap.get?_push_of_some _ e) (Nat.le_refl _) ?_, rfl, q _ hf⟩
  exact ⟨z, us, 0, r, Heap.get?_push_size _ rfl⟩
end

/-! ### what a def promises -/
/-- a def's promise: the bound arguments in the parameters' order, the heap, the wanted end, the wanted exception -/
abbrev Sp := List V → Hp → VK → XK → Prop
/-- how an exception lies behind a call (file 08 gives it): the callers' frames, abstract heap and state ahead of the call, the wish, the exception, the state -/
abbrev CXT := List Env → Hp → Shared → XK → Value → Shared → Prop

/-- the state at a call -/
structure Env0 (P : Program) (w : World) (K : PySem.W.Frag) (mg : Str → Option Value) (base : Heap) (A : Around) (outer : List Env) (s : Shared) (H : Hp) : Prop where
  frames : A.frames = some outer
  mod : Mod K mg base
  bs : ∀ b o, base.get? b = some o → s.heap.get? b = some o ∧ H b = none
  bsz : base.objs.size ≤ s.heap.objs.size
  funs : s.heap.FunFrames base outer
  frf : ∀ b ∈ frs outer, H b = none
  hok : HOk P w H s.heap
  bare : AllBare s.gens
/-- a call's end -/
def CE (outer : List Env) (P : Program) (w : World) (H : Hp) (s : Shared) (Q : VK) (u : Value) (s' : Shared) : Prop :=
  ∃ v H', s'.os = s.os ∧ AllBare s'.gens ∧ Un (frs outer) [] H H' s.heap s'.heap ∧ HOk P w H' s'.heap ∧ RelV v u ∧ Q v H'
def CR (CX : CXT) (outer : List Env) (P : Program) (w : World) (H : Hp) (s : Shared) (Q : VK) (E : XK) (r : Result) (s' : Shared) : Prop :=
  match r with
  | .ok (.ret u) => CE outer P w H s Q u s'
  | .ok _ => False
  | .error e => CX outer H s E e s'
structure FnOk (P : Program) (w : World) (K : PySem.W.Frag) (mg : Str → Option Value) (base : Heap) (CX : CXT) (k : Nat) (f : Addr) (fd : FuncData) (ps : List Str) (sp : Sp) : Prop where
  len : ∀ vs H Q E, sp vs H Q E → vs.length = ps.length
  run : ∀ (A : Around) (outer : List Env) (s : Shared) (H : Hp) (args : Args) (us : List Value) (vs : List V) (Q : VK) (E : XK), Room k A → Env0 P w K mg base A outer s H → BindsTo s fd args (ps.zip us) → Vals vs us → sp vs H Q E →
    codeAny (model P w) A (.call (.ref f) args) (CR CX outer P w H s Q E) s
theorem FnOk.mono {P : Program} {w : World} {K : PySem.W.Frag} {mg : Str → Option Value} {base : Heap} {CX : CXT} {j k : Nat} {f : Addr} {fd : FuncData} {ps : List Str} {sp : Sp} (F : FnOk P w K mg base CX j f fd ps sp) (h : j ≤ k) :
    FnOk P w K mg base CX k f fd ps sp := ⟨F.len, fun A outer s H args us vs Q E hr => F.run A outer s H args us vs Q E (hr.mono h)⟩
/-- a weaker promise -/
theorem FnOk.imp {P : Program} {w : World} {K : PySem.W.Frag} {mg : Str → Option Value} {base : Heap} {CX : CXT} {k : Nat} {f : Addr} {fd : FuncData} {ps : List Str} {sp sp' : Sp} (F : FnOk P w K mg base CX k f fd ps sp)
    (h : ∀ vs H Q E, sp' vs H Q E → sp vs H Q E) : FnOk P w K mg base CX k f fd ps sp' :=
  ⟨fun vs H Q E q => F.len vs H Q E (h _ _ _ _ q), fun A outer s H args us vs Q E hr he hb hv hs => F.run A outer s H args us vs Q E hr he hb hv (h _ _ _ _ hs)⟩

theorem Env0.make {P : Program} {w : World} {K : PySem.W.Frag} {mg : Str → Option Value} {base : Heap} {A : Around} {outer : List Env} {s : Shared} {H : Hp} (e : Env0 P w K mg base A outer s H) (C : Addr) (us : List Value) (kw : List (Str × Value)) :
    Env0 P w K mg base (A.under (.builtin "type.__call__" ⟨.ref C :: us, kw⟩)) outer s H := ⟨by first | exact e.frames | (simpa [Around.under, Code.envs, Code.isFrame, pushEnvs] using e.frames), e.mod, e.bs, e.bsz, e.funs, e.frf, e.hok, e.bare⟩
theorem Env0.in1 {P : Program} {w : World} {K : PySem.W.Frag} {mg : Str → Option Value} {base : Heap} {A : Around} {outer : List Env} {s : Shared} {H : Hp} (e : Env0 P w K mg base A outer s H) :
    Env0 P w K mg base A.in1 outer s H := ⟨e.frames, e.mod, e.bs, e.bsz, e.funs, e.frf, e.hok, e.bare⟩

section
variable {X : Cx} {pins : List (Addr × Obj)} {σ : St} {H : Hp} {s s' : Shared}
/-- from a body: what a callee wants -/
theorem Inv.env0 (I : Inv X pins σ H s) : Env0 X.prog X.w X.K X.mg X.base X.A X.stack s H :=
  ⟨I.ok.frames, I.ok.mod, I.bs, Nat.le_trans I.ok.bsz I.sz, I.stack, I.stkFree, I.hok, I.bare⟩
/-- behind a call -/
theorem Inv.after {Q : VK} {u : Value} (I : Inv X pins σ H s) (h : CE X.stack X.prog X.w H s Q u s') : EP X pins σ Q u s' := by
  obtain ⟨v, H', os, bare, un, hok, r, q⟩ := h
  obtain ⟨hh, g, d, t, os'⟩ := s'
  obtain rfl : os' = s.os := os
  exact ⟨v, H', I.call (h' := hh) (g' := g) (d' := d) (t' := t) (ch := []) un hok bare (fun b z => absurd z (by simp)), r, q⟩
end

/-! ### calls -/
/-- f(..): the written arguments, then the defaults dvs; E: what is wanted of an exception -/
def tCall (sp : Sp) (dvs : List V) (E : XK) (t : TA) : TE := fun σ H Q => t σ H fun vs H1 => sp (vs ++ dvs) H1 Q E
/-- o.m(..) of an instance of the class at C -/
def tMeth (C : Addr) (m : Str) (sp : Sp) (dvs : List V) (E : XK) (ta : TE) (t : TA) : TE := fun σ H Q => ta σ H fun x H1 => ∃ a dx fs, x = .ref a ∧ H1 a = some (.ins C dx fs) ∧ fs.lookup m = none ∧
  t σ H1 fun vs H2 => sp (x :: (vs ++ dvs)) H2 Q E
/-- C(..): a new instance and its dict, then __init__ -/
def tMake (C : Addr) (sp : Sp) (dvs : List V) (E : XK) (t : TA) : TE := fun σ H Q => t σ H fun vs H1 => ∀ x dx, H1 x = none → H1 dx = none → dx ≠ x →
  sp (.ref x :: (vs ++ dvs)) (upd (upd H1 dx (.own x)) x (.ins C dx [])) (fun v H2 => v = .non ∧ Q (.ref x) H2) E

/-- how the parameters are bound: us the positional arguments, kw the keywords' values by name, ds the defaults that fill up -/
def Binds (K : PySem.W.Frag) (fd : FuncData) (ps : List Str) (ds : List Value) : Prop :=
  ∀ (s : Shared) (us : List Value), K.In s.heap → (us ++ ds).length = ps.length → BindsTo s fd ⟨us, []⟩ (ps.zip (us ++ ds))
/-- every parameter is given -/
theorem Binds.all {K : PySem.W.Frag} {fd : FuncData} {ps : List Str} (h : ∀ us : List Value, us.length = ps.length → bindArgs fd ⟨us, []⟩ = pure (ps.zip us)) : Binds K fd ps [] := fun s us _ hl => by
  rw [List.append_nil] at hl ⊢
  exact .of_eq (h us hl)

/-- an exception of a callee reaches what this body wants of exceptions -/
def Passes (CX : CXT) (X : Cx) (E : XK) : Prop := ∀ (pins : List (Addr × Obj)) (σ : St) (H : Hp) (s : Shared) (e : Value) (s' : Shared), Inv X pins σ H s → CX X.stack H s E e s' → X.xe e s'

section
variable {X : Cx} {CX : CXT} {k : Nat} {f C : Addr} {fd : FuncData} {ps : List Str} {sp : Sp} {dvs : List V} {ds : List Value} {E : XK} {x m : Str} {p pos apos : Pos} {e o : Expr} {es : List Expr} {ta : TE} {t : TA}

/-- the callee runs -/
theorem run_fn {pins : List (Addr × Obj)} {σ : St} {H : Hp} {s : Shared} {Q : VK} {us : List Value} {vs : List V} (F : FnOk X.prog X.w X.K X.mg X.base CX k f fd ps sp) (hr : Room k X.A) (hb : Binds X.K fd ps ds) (hd : Vals dvs ds) (hx : Passes CX X E)
    (I : Inv X pins σ H s) (r : Vals vs us) (h : sp (vs ++ dvs) H Q E) : wpAny (model X.prog X.w) X.A (call (.ref f) us) (EP X pins σ Q) X.xe s := by
  have r2 : Vals (vs ++ dvs) (us ++ ds) := r.append hd
  have hl : (us ++ ds).length = ps.length := by rw [← r2.length]; exact F.len _ _ _ _ h
  refine wpAny_call (codeAny_mono (F.run X.A X.stack s H ⟨us, []⟩ (us ++ ds) (vs ++ dvs) Q E hr I.env0 (hb s us I.kIn hl) r2 h) fun r s' hq => ?_)
  cases r with
  | error e => exact hx pins σ H s e s' I hq
  | ok fl =>
    cases fl with
    | ret u => exact I.after hq
    | next => exact False.elim hq
    | brk => exact False.elim hq
    | cont => exact False.elim hq

theorem pe_call (F : FnOk X.prog X.w X.K X.mg X.base CX k f fd ps sp) (hr : Room k X.A) (hg : Gl X x) (hm : X.mg x = some (.ref f)) (hk : PySem.W.keepIn X.K (.ref f) = true) (hb : Binds X.K fd ps ds) (hd : Vals dvs ds) (hx : Passes CX X E)
    (ha : PA X (e :: es) t) (hdb : (x == ("__debug__" : Str)) = false := by decide) (he : starEach (e :: es) X.env = (false, eval e X.env) :: starEach es X.env := by rfl) (hpl : (backTo pos (starEach es X.env)).any (·.1) = false := by rfl) :
    PE X (.Call (.Name x p) (e :: es) [] pos) (tCall sp dvs E t) := by
  intro pins s σ H Q I h
  refine wpAny_Call_Name_kw (ld_glob I hg hm ?_ hdb)
  refine PySem.W.callWith_K (h₀ := X.base) I.ok.mod.kin hk (thn (ha pos pins s σ H _ I h) fun us s1 ⟨vs, H1, I1, r, q⟩ => ⟨I1.kIn, ?_⟩) he hpl
  exact run_fn F hr hb hd hx I1 r q

/-- o.m(e, ..) -/
theorem pe_meth {pl : Sem Bool} (he : PE X o ta) (c : Cls X.K C) (hm : Meth X.K C m f) (F : FnOk X.prog X.w X.K X.mg X.base CX k f fd ps sp) (hr : Room k X.A) (hb : Binds X.K fd ps ds) (hd : Vals dvs ds) (hx : Passes CX X E) (ha : PA X (e :: es) t)
    (hst : starEach (e :: es) X.env = (false, eval e X.env) :: starEach es X.env := by rfl) (hpl : (backTo pos (starEach es X.env)).any (·.1) = false := by rfl)
    (ht : eval (.Call (.Attribute o m apos) (e :: es) [] pos) X.env = (do
      let ov ← eval o X.env
      standAt apos.atName
      let (f, first) ← holding [ov] (getMethod ov m pl)
      callWith pos f first (backTo pos (starEach (e :: es) X.env)) (backToKw pos (keywordEach [] X.env))) := by rfl) :
    PE X (.Call (.Attribute o m apos) (e :: es) [] pos) (tMeth C m sp dvs E ta t) := by
  intro pins s σ H Q I h
  refine PySem.W.methodCall_KW (pl := pl) (thn (he pins s σ H _ I h) fun u s1 ⟨x, H1, I1, rx, a, dx, fs, ex, ea, l, q⟩ => ?_) ht
  subst ex
  obtain rfl : u = Value.ref a := rx
  refine getmeth_ok I1 ea c hm l ?_
  refine PySem.W.callWith_K (first := [.ref a]) (h₀ := X.base) I.ok.mod.kin hm.kp (thn (ha pos pins s1 σ H1 _ I1 q) fun us s2 ⟨vs, H2, I2, r, q2⟩ => ⟨I2.kIn, ?_⟩) hst hpl
  exact run_fn (us := .ref a :: us) (vs := .ref a :: vs) F hr hb hd hx I2 (.cons rfl r) q2
/-- o.m() -/
theorem pe_meth0 {pl : Sem Bool} (he : PE X o ta) (c : Cls X.K C) (hm : Meth X.K C m f) (F : FnOk X.prog X.w X.K X.mg X.base CX k f fd ps sp) (hr : Room k X.A) (hb : Binds X.K fd ps ds) (hd : Vals dvs ds) (hx : Passes CX X E)
    (ht : eval (.Call (.Attribute o m apos) [] [] pos) X.env = (do
      let ov ← eval o X.env
      standAt apos.atName
      let (f, first) ← holding [ov] (getMethod ov m pl)
      callWith pos f first (backTo pos (starEach [] X.env)) (backToKw pos (keywordEach [] X.env))) := by rfl) :
    PE X (.Call (.Attribute o m apos) [] [] pos) (tMeth C m sp dvs E ta tNil) := by
  intro pins s σ H Q I h
  refine PySem.W.methodCall_KW (pl := pl) (thn (he pins s σ H _ I h) fun u s1 ⟨x, H1, I1, rx, a, dx, fs, ex, ea, l, q⟩ => ?_) ht
  subst ex
  obtain rfl : u = Value.ref a := rx
  refine getmeth_ok I1 ea c hm l ?_
  exact PySem.W.callWith_K0 (first := [.ref a]) I1.kIn hm.kp (run_fn (us := [.ref a]) (vs := [.ref a]) F hr hb hd hx I1 (.cons rfl .nil) q)

/-- what a class must have to be made -/
structure Mk (K : PySem.W.Frag) (C f : Addr) : Prop where
  makes : PySem.W.makesIn K C = true
  init : PySem.W.findIn K (.ref C) "__init__" = some (some (.ref f))
  fn : PySem.W.isFn K (.ref f) = true
  kp : PySem.W.keepIn K (.ref C) = true

theorem run_make {pins : List (Addr × Obj)} {σ : St} {H : Hp} {s : Shared} {Q : VK} {us : List Value} {vs : List V} (M : Mk X.K C f) (F : FnOk X.prog X.w X.K X.mg X.base CX k f fd ps sp) (hr : Room (k + 1) X.A) (hb : Binds X.K fd ps ds) (hd : Vals dvs ds)
    (hx : Passes CX X E) (I : Inv X pins σ H s) (r : Vals vs us)
    (h : ∀ x dx, H x = none → H dx = none → dx ≠ x → sp (.ref x :: (vs ++ dvs)) (upd (upd H dx (.own x)) x (.ins C dx [])) (fun v H2 => v = .non ∧ Q (.ref x) H2) E) :
    wpAny (model X.prog X.w) X.A (call (.ref C) us) (EP X pins σ Q) X.xe s := by
  have hq := h (s.heap.objs.size + 1) s.heap.objs.size (I.hok.fresh (Nat.le_succ _)) (I.hok.fresh (Nat.le_refl _)) (Nat.ne_of_lt (Nat.lt_succ_self _))
  have I2 := Inv.made (C := C) I
  have r2 : Vals (V.ref (s.heap.objs.size + 1) :: (vs ++ dvs)) (Value.ref (s.heap.objs.size + 1) :: (us ++ ds)) := .cons rfl (r.append hd)
  have hl : (Value.ref (s.heap.objs.size + 1) :: us ++ ds).length = ps.length := by
    have e := r2.length
    rw [F.len _ _ _ _ hq] at e
    exact e.symm
  refine wpAny_call (make_map (f := f) I.kIn M.makes M.init (beq_iff_eq.mp M.fn) (codeAny_mono (F.run _ X.stack _ _ ⟨Value.ref (s.heap.objs.size + 1) :: us, []⟩ (Value.ref (s.heap.objs.size + 1) :: (us ++ ds)) _ _ E (hr.make C us [])
    (I2.env0.make C us []) (hb _ (Value.ref (s.heap.objs.size + 1) :: us) I2.kIn hl) r2 hq) fun r s' hq' => ?_))
  cases r with
  | error e => exact hx pins σ _ _ e s' I2 hq'
  | ok fl =>
    cases fl with
    | ret u =>
      obtain ⟨v, H', I3, rv, ev, q3⟩ := I2.after hq'
      subst ev
      exact ⟨rv, ⟨V.ref (s.heap.objs.size + 1), H', I3, rfl, q3⟩⟩
    | next => exact False.elim hq'
    | brk => exact False.elim hq'
    | cont => exact False.elim hq'
theorem pe_make (M : Mk X.K C f) (F : FnOk X.prog X.w X.K X.mg X.base CX k f fd ps sp) (hr : Room (k + 1) X.A) (hg : Gl X x) (hm : X.mg x = some (.ref C)) (hb : Binds X.K fd ps ds) (hd : Vals dvs ds) (hx : Passes CX X E)
    (ha : PA X (e :: es) t) (hdb : (x == ("__debug__" : Str)) = false := by decide) (he : starEach (e :: es) X.env = (false, eval e X.env) :: starEach es X.env := by rfl) (hpl : (backTo pos (starEach es X.env)).any (·.1) = false := by rfl) :
    PE X (.Call (.Name x p) (e :: es) [] pos) (tMake C sp dvs E t) := by
  intro pins s σ H Q I h
  refine wpAny_Call_Name_kw (ld_glob I hg hm ?_ hdb)
  refine PySem.W.callWith_K (h₀ := X.base) I.ok.mod.kin M.kp (thn (ha pos pins s σ H _ I h) fun us s1 ⟨vs, H1, I1, r, q⟩ => ⟨I1.kIn, ?_⟩) he hpl
  exact run_make M F hr hb hd hx I1 r q
theorem pe_make0 (M : Mk X.K C f) (F : FnOk X.prog X.w X.K X.mg X.base CX k f fd ps sp) (hr : Room (k + 1) X.A) (hg : Gl X x) (hm : X.mg x = some (.ref C)) (hb : Binds X.K fd ps ds) (hd : Vals dvs ds) (hx : Passes CX X E)
    (hdb : (x == ("__debug__" : Str)) = false := by decide) : PE X (.Call (.Name x p) [] [] pos) (tMake C sp dvs E tNil) := by
  intro pins s σ H Q I h
  refine wpAny_Call_Name_kw (ld_glob I hg hm ?_ hdb)
  exact PySem.W.callWith_K0 I.kIn M.kp (run_make (us := []) M F hr hb hd hx I .nil h)
end

/-! ### keywords -/
section
variable {X : Cx} {CX : CXT} {k : Nat} {f C : Addr} {fd : FuncData} {ps ks : List Str} {sp : Sp} {E : XK} {x m : Str} {p pos apos kpos : Pos} {e o : Expr} {es : List Expr} {kws : List Keyword} {te ta : TE} {t tk : TA} {nm : Option Str}

/-- how a call with keywords binds: g puts the positional values us and the keywords' values ws (names ks) in the parameters' order, defaults among them -/
structure KBinds (K : PySem.W.Frag) (fd : FuncData) (ps ks : List Str) (g : List Value → List Value → List Value) (gV : List V → List V → List V) : Prop where
  to : ∀ (s : Shared) (us ws : List Value), K.In s.heap → (g us ws).length = ps.length → BindsTo s fd ⟨us, ks.zip ws⟩ (ps.zip (g us ws))
  rel : ∀ {vs : List V} {us : List Value} {zs : List V} {ws : List Value}, Vals vs us → Vals zs ws → Vals (gV vs zs) (g us ws)
variable {g : List Value → List Value → List Value} {gV : List V → List V → List V}
end

/-! ### a def's body keeps its promise -/
/-- names: the parameters first -/
structure FnScope (N P : List Str) (sc : Scope) : Prop where
  kind : sc.kind = .function
  co : sc.isCoroutine = false
  gen : sc.isGenerator = false
  nd : N.Nodup
  pre : N.take P.length = P
  par : ∀ x ∈ P, sc.names.lookup x = some .local ∨ sc.names.lookup x = some .cell
  nofree : ∀ y ∈ sc.names, y.2 ≠ .free

theorem bindL_out {kindOf : Str → Option NameKind} {x : Str} : ∀ {binds : List (Str × Value)} {m : Str → Option Value}, (∀ v, (x, v) ∉ binds) → bindL kindOf binds m x = m x
  | [], _, _ => rfl
  | (n, v) :: r, m, h => by
    unfold bindL
    rw [bindL_out fun w hw => h w (List.mem_cons_of_mem _ hw)]
    split
    · have : x ≠ n := by rintro rfl; exact h v List.mem_cons_self
      simp [this]
    · rfl
theorem bindC_out {kindOf : Str → Option NameKind} {x : Str} : ∀ {binds : List (Str × Value)} {m : Str → Option Value}, (∀ v, (x, v) ∉ binds) → bindC kindOf binds m x = m x
  | [], _, _ => rfl
  | (n, v) :: r, m, h => by
    unfold bindC
    rw [bindC_out fun w hw => h w (List.mem_cons_of_mem _ hw)]
    split
    · rfl
    · have : x ≠ n := by rintro rfl; exact h v List.mem_cons_self
      simp [this]
theorem bindL_get {kindOf : Str → Option NameKind} {x : Str} {v : Value} : ∀ {P : List Str} {vs : List Value} {i : Nat} {m : Str → Option Value}, P.Nodup → P[i]? = some x → vs[i]? = some v → kindOf x = some .local →
    bindL kindOf (P.zip vs) m x = some v
  | [], _, _, _, _, h, _, _ => by simp at h
  | _ :: _, [], _, _, _, _, h, _ => by simp at h
  | p :: P, w :: vs, 0, m, nd, h1, h2, hk => by
    simp at h1 h2; subst h1; subst h2
    show bindL kindOf ((p, w) :: P.zip vs) m p = _
    unfold bindL
    rw [bindL_out fun v hv => (List.nodup_cons.mp nd).1 (List.of_mem_zip hv).1, if_pos hk]
    simp
  | p :: P, w :: vs, i + 1, m, nd, h1, h2, hk => by
    show bindL kindOf ((p, w) :: P.zip vs) m x = _
    unfold bindL
    exact bindL_get (i := i) (List.nodup_cons.mp nd).2 (by simpa using h1) (by simpa using h2) hk
theorem bindC_get {kindOf : Str → Option NameKind} {x : Str} {v : Value} : ∀ {P : List Str} {vs : List Value} {i : Nat} {m : Str → Option Value}, P.Nodup → P[i]? = some x → vs[i]? = some v → kindOf x ≠ some .local →
    bindC kindOf (P.zip vs) m x = some v
  | [], _, _, _, _, h, _, _ => by simp at h
  | _ :: _, [], _, _, _, _, h, _ => by simp at h
  | p :: P, w :: vs, 0, m, nd, h1, h2, hk => by
    simp at h1 h2; subst h1; subst h2
    show bindC kindOf ((p, w) :: P.zip vs) m p = _
    unfold bindC
    rw [bindC_out fun v hv => (List.nodup_cons.mp nd).1 (List.of_mem_zip hv).1, if_neg hk]
    simp
  | p :: P, w :: vs, i + 1, m, nd, h1, h2, hk => by
    show bindC kindOf ((p, w) :: P.zip vs) m x = _
    unfold bindC
    exact bindC_get (i := i) (List.nodup_cons.mp nd).2 (by simpa using h1) (by simpa using h2) hk

/-- the names' values at the entry -/
def start (N : List Str) (vs : List V) : St := vs.map some ++ List.replicate (N.length - vs.length) none

/-- the context of a def's body, at its entry; an exception leaves the frame, then lies as CX says -/
def cxOf (CX : CXT) (P : Program) (w : World) (K : PySem.W.Frag) (mg : Str → Option Value) (base : Heap) (N : List Str) (qual : Str) (scope : Scope) (f : Addr) (cd : Value) (A : Around) (outer : List Env) (s : Shared) (H : Hp) (E : XK) : Cx where
  prog := P
  w := w
  K := K
  mg := mg
  base := base
  A := A.deeper (envOfC qual scope s.heap.objs.size f cd)
  N := N
  s_0 := s
  H_0 := H
  env := envOfC qual scope s.heap.objs.size f cd
  outer := outer
  stack := envOfC qual scope s.heap.objs.size f cd :: outer
  ex := []
  calm := true
  fn := fun _ => true
  pn := []
  xe := fun e s' => wpAny (model P w) (A.deeper (envOfC qual scope s.heap.objs.size f cd)) (leaving (envOfC qual scope s.heap.objs.size f cd) e) (fun _ s'' => CX outer H s E e s'') (fun e' s'' => CX outer H s E e' s'') s'

theorem cell_has {sc : Scope} {n : Nat} {x : Str} (h : sc.names.lookup x = some .cell) : ∃ c, (cellsFrom n sc.names []).lookup x = some c := by
  have q := PySem.W.cellsFrom_some sc.names n [] (.inl h)
  exact Option.isSome_iff_exists.mp q

theorem inv_start {CX : CXT} {P : Program} {w : World} {K : PySem.W.Frag} {mg : Str → Option Value} {base : Heap} {N ps : List Str} {qual : Str} {scope : Scope} {f : Addr} {cd : Value} {A : Around} {outer : List Env} {s s1 : Shared} {H : Hp} {E : XK} {us : List Value} {vs : List V}
    (S : FnScope N ps scope) (hd : A.handled = none) (e0 : Env0 P w K mg base A outer s H) (hl : vs.length = ps.length) (r : Vals vs us)
    (x : InCallC s s.heap.objs.size (bindL (envOfC qual scope s.heap.objs.size f cd).kindOf (ps.zip us) fun _ => none) (cellsFrom (s.heap.objs.size + 1) scope.names []) (bindC (envOfC qual scope s.heap.objs.size f cd).kindOf (ps.zip us) fun _ => none) s1) :
    Inv (cxOf CX P w K mg base N qual scope f cd A outer s H E) [] (start N vs) H s1 := by
  have hpl : ps.length ≤ N.length := by have := congrArg List.length S.pre; rw [List.length_take] at this; omega
  obtain ⟨h1, tk, rfl, hk⟩ := x.done
  have noA : ∀ b : Addr, b ∉ (cxOf CX P w K mg base N qual scope f cd A outer s H E).ex := fun b z => absurd (show b ∈ ([] : List Addr) from z) (by simp)
  refine ⟨⟨e0.mod, S.kind, rfl, rfl, Nat.le_refl _, fun y z c h1 h2 => ?_, fun y hy => ?_, fun y c _ h => ?_, fun _ => hd, Around.frames_deeper e0.frames, .inr ⟨rfl, rfl⟩, fun b z => absurd z (noA b), e0.bs, e0.bsz, fun b _ _ => noA b, fun b z => absurd z (noA b), e0.funs, e0.frf⟩,
    rfl, e0.bare, Un.kept hk, ⟨_, x.toInCall.ns, fun i y v h1 h2 h3 => ?_⟩, fun y c h => ⟨_, x.cell y c h⟩, e0.hok.fresh (Nat.le_refl _), fun y c h => ?_, fun p hp => absurd (show p ∈ ([] : List (Addr × Obj)) from hp) (by simp), e0.hok.kept hk, ?_⟩
  · exact name_of_addr x.apart (PySem.mem_of_lookup h1) (PySem.mem_of_lookup h2)
  · have hy : scope.names.lookup y = some .cell ∨ scope.names.lookup y = some .free := hy
    rcases hy with hy | hy
    · exact cell_has hy
    · exact absurd rfl (S.nofree _ (PySem.mem_of_lookup hy))
  · exact Nat.le_of_lt (x.above y c (PySem.mem_of_lookup h))
  · have hi : i < vs.length := by
      unfold start at h2
      by_cases hi : i < vs.length
      · exact hi
      · rw [List.getElem?_append_right (by simpa using hi)] at h2
        rw [List.getElem?_replicate] at h2
        split at h2 <;> cases h2
    have ha : vs[i]? = some v := by
      unfold start at h2
      rw [List.getElem?_append_left (by simpa using hi), List.getElem?_map] at h2
      cases e : vs[i]? with
      | none => rw [e] at h2; cases h2
      | some a => rw [e] at h2; cases h2; rfl
    obtain ⟨u, hu, rv⟩ := r.get ha
    have hp : ps[i]? = some y := by
      rw [← S.pre, List.getElem?_take_of_lt (by omega)]; exact h1
    have ndP : ps.Nodup := by rw [← S.pre]; exact S.nd.sublist (List.take_sublist _ _)
    refine ⟨u, rv, ?_⟩
    rcases S.par y (List.mem_of_getElem? hp) with k | k
    · exact .inl ⟨k, bindL_get ndP hp hu k⟩
    · obtain ⟨c, e⟩ := cell_has (n := s.heap.objs.size + 1) k
      refine .inr ⟨.inl k, c, e, ?_⟩
      have q := x.cell y c e
      rw [bindC_get ndP hp hu (by show scope.names.lookup y ≠ _; rw [k]; decide)] at q
      exact q
  · exact e0.hok.fresh (Nat.le_of_lt (x.above y c (PySem.mem_of_lookup h)))
  · unfold start
    show _ = N.length
    rw [List.length_append, List.length_map, List.length_replicate]
    omega

/-- THE RULE: a def (or a method) of the text, by its body. The body's reading t is chosen for each entry; it is run at the parameters' values -/
theorem fn_of {CX : CXT} {P : Program} {w : World} {K : PySem.W.Frag} {mg : Str → Option Value} {base : Heap} {k : Nat} {f : Addr} {name qual : Str} {params : Arguments} {body : List Stmt} {scope : Scope} {dV kV doc pm cdv ct oc : Value} {an od : Option Addr}
    {osl : Array (Option Value)} {N ps : List Str} {sp : Sp} (lk : K.lookup f = some ⟨oc, od, .func (PySem.W.fnOf name qual params body scope dV kV doc pm an cdv ct), osl⟩) (hcd : PySem.W.codeIn K cdv qual = true) (S : FnScope N ps scope)
    (len : ∀ vs H Q E, sp vs H Q E → vs.length = ps.length)
    (hbody : ∀ (A : Around) (outer : List Env) (s : Shared) (H : Hp) (vs : List V) (Q : VK) (E : XK), Room k (A.deeper (envOfC qual scope s.heap.objs.size f cdv)) → sp vs H Q E →
      ∃ t, PSs (cxOf CX P w K mg base N qual scope f cdv A outer s H E) body t ∧ t { nx := fun _ H' => Q .non H', rt := Q } (start N vs) H) :
    FnOk P w K mg base CX (k + 1) f (PySem.W.fnOf name qual params body scope dV kV doc pm an cdv ct) ps sp := by
  refine ⟨len, fun A outer s H args us vs Q E hr e0 hb r hsp => ?_⟩
  have hl := len _ _ _ _ hsp
  have KX : K.In s.heap := e0.mod.kin.keeps fun b o e => (e0.bs b o e).1
  have lim : s.heap.NoLimit := e0.mod.nolimit.keeps fun b o e => (e0.bs b o e).1
  have hkind : ∀ y ∈ ps.zip us, scope.names.lookup y.1 = some .local ∨ (scope.names.lookup y.1 = some .cell ∧ ((cellsFrom (s.heap.objs.size + 1) scope.names []).lookup y.1).isSome = true) := fun ⟨n, v⟩ hy => by
    rcases S.par n (List.of_mem_zip hy).1 with q | q
    · exact .inl q
    · exact .inr ⟨q, PySem.W.cellsFrom_some _ _ _ (.inl q)⟩
  refine codeAny_call_function hr.depth (KX _ _ lk) rfl S.co S.gen rfl (PySem.W.codeRec_of KX hcd) (hb _ _ _ _ ?_)
  refine wpAny_newFunctionEnv_cells S.kind hkind fun env he s1 x => ?_
  subst he
  refine ⟨lim.keeps x.toInCall.keep, codeAny_func ?_⟩
  obtain ⟨t, ht, hq⟩ := hbody A outer s H vs Q E (hr.deeper _) hsp
  have I : Inv (cxOf CX P w K mg base N qual scope f cdv A outer s H E) [] (start N vs) H s1 := inv_start S hr.hd e0 hl r x
  refine wpAny_mono (ht [] s1 (start N vs) H _ I hq) (fun fl s' hs => ?_) fun e s' hs => hs
  have fin : ∀ {σ' : St} {H' : Hp} {v : V} {u : Value}, Inv (cxOf CX P w K mg base N qual scope f cdv A outer s H E) [] σ' H' s' → RelV v u → Q v H' → CE outer P w H s Q u s' :=
    fun {σ' H' v u} J rv q => ⟨v, H', J.os, J.bare, J.base, J.hok, rv, q⟩
  cases fl with
  | ret u =>
    obtain ⟨v, σ', H', J, rv, q⟩ := hs
    exact fin J rv q
  | next =>
    obtain ⟨σ', H', J, q⟩ := hs
    exact fin (v := V.non) (u := Value.none) J rfl q
  | brk =>
    obtain ⟨_, _, _, q⟩ := hs
    exact False.elim q
  | cont =>
    obtain ⟨_, _, _, q⟩ := hs
    exact False.elim q
end L2

namespace L2
open PySem PySem.Spec PyProof.Rows
section
variable {X : Cx} {x : Str} {p pos : Pos} {e : Expr} {es : List Expr} {t : TA} {id T : String} {r : List V → Hp → VK → Prop}

def tCB (r : List V → Hp → VK → Prop) (t : TA) : TE := fun σ H Q => t σ H fun vs H1 => r vs H1 Q
/-- f(e, ..), f a built-in function -/
theorem pe_callB (hc : CallR X (.builtin id) r) (hg : Gl X x) (hm : X.mg x = none) (hv : bootBuiltins x = some (.builtin id)) (ha : PA X (e :: es) t) (hn : x ≠ "__name__" := by decide) (hdb : (x == ("__debug__" : Str)) = false := by decide)
    (he : starEach (e :: es) X.env = (false, eval e X.env) :: starEach es X.env := by rfl) (hpl : (backTo pos (starEach es X.env)).any (·.1) = false := by rfl) : PE X (.Call (.Name x p) (e :: es) [] pos) (tCB r t) := by
  intro pins s σ H Q I h
  refine wpAny_Call_Name_kw (ld_blt I hg hm hv ?_ hn hdb)
  exact PyProof.Rows.callWith_builtin1 (thn (ha pos pins s σ H _ I h) fun us s1 ⟨vs, H1, I1, r1, q1⟩ => hc pins s1 σ H1 vs us Q I1 r1 q1) he hpl
/-- T(e, ..), T a built-in type -/
theorem pe_callTy (hc : CallR X (.type T) r) (hg : Gl X x) (hm : X.mg x = none) (hv : bootBuiltins x = some (.type T)) (ha : PA X (e :: es) t) (hn : x ≠ "__name__" := by decide) (hdb : (x == ("__debug__" : Str)) = false := by decide)
    (he : starEach (e :: es) X.env = (false, eval e X.env) :: starEach es X.env := by rfl) (hpl : (backTo pos (starEach es X.env)).any (·.1) = false := by rfl) : PE X (.Call (.Name x p) (e :: es) [] pos) (tCB r t) := by
  intro pins s σ H Q I h
  refine wpAny_Call_Name_kw (ld_blt I hg hm hv ?_ hn hdb)
  exact PyProof.Rows.callWith_type1 (thn (ha pos pins s σ H _ I h) fun us s1 ⟨vs, H1, I1, r1, q1⟩ => hc pins s1 σ H1 vs us Q I1 r1 q1) he hpl
end
end L2

namespace HT
open PySem PyProof.Rows



section
open PySem.SeqAt
open PySem.AutoSeq1 (wpAny_loadPart')
open PySem.MeetsSeq PySem.MeetsSeq2 PySem.MeetsSeq3

end

section
variable {prog : Program} {w : World} {A : Around} {E : Value → Shared → Prop} {s : Shared}



/-! ### t[a:b], not the whole -/
/-- a slice's bound as a place among n (d where it is left out) -/
def sIx (n d : Nat) : Option Int → Nat
  | none => d
  | some v => if v < 0 then (v + (n : Int)).toNat else min v.toNat n
theorem sIx_none (n d : Nat) : sIx n d none = d := rfl
theorem sIx_nat (n d k : Nat) : sIx n d (some (k : Int)) = min k n := by
  show (if (k : Int) < 0 then ((k : Int) + (n : Int)).toNat else min (k : Int).toNat n) = min k n
  rw [if_neg (by omega), Int.toNat_natCast]

end
end HT

namespace L2
open PySem PySem.Spec PyProof.Rows

/-! ### the parts of a slice -/
abbrev TO := St → Hp → (Option Int → Hp → Prop) → Prop
/-- a slice's part (left out, or an int) -/
def PO (X : Cx) (e : Option Expr) (t : TO) : Prop :=
  ∀ (pins : List (Addr × Obj)) (s : Shared) (σ : St) (H : Hp) (Q : Option Int → Hp → Prop), Inv X pins σ H s → t σ H Q →
    wpAny (model X.prog X.w) X.A (evalPart e X.env) (fun u s' => ∃ o H', Inv X pins σ H' s' ∧ IsPart u o ∧ Q o H') X.xe s
def tNoPart : TO := fun _ H Q => Q none H
def tPart (t : TE) : TO := fun σ H Q => t σ H fun x H1 => ∃ i, x = .int i ∧ Q (some i) H1


section
variable {X : Cx} {e : Expr} {te : TE} {lo hi : Option Expr} {tl th : TO} {pos p2 : Pos}

theorem po_none : PO X none tNoPart := by
  intro pins s σ H Q I h
  rw [evalPart_none]
  exact wpAny_pure ⟨none, H, I, .none, h⟩
theorem po_some (h : PE X e te) : PO X (some e) (tPart te) := by
  intro pins s σ H Q I hw
  rw [evalPart_some]
  refine thn (h pins s σ H _ I hw) fun u s1 ⟨x, H1, I1, r1, q1⟩ => ?_
  obtain ⟨i, rfl, q⟩ := q1
  obtain ⟨t, rfl⟩ := r1
  exact ⟨some i, H1, I1, .int i t, q⟩

/-- what a slice of a value is, by values: the slice object stands at sl -/
def SlR (X : Cx) (r : V → Option Int → Option Int → Hp → VK → Prop) : Prop :=
  ∀ (pins : List (Addr × Obj)) (s : Shared) (σ : St) (H : Hp) (x : V) (v vl vu : Value) (lo hi : Option Int) (sl : Addr) (Q : VK), Inv X pins σ H s → RelV x v → s.heap.IsSliceOf sl vl vu .none → IsPart vl lo → IsPart vu hi → r x lo hi H Q →
    ∃ T id, typeLookup (.type T) "__getitem__" = pure (some (.builtin id)) ∧ s.TypeIs v T ∧ wpAny (model X.prog X.w) X.A (getItem v (.ref sl)) (EP X pins σ Q) X.xe s
theorem SlR.or {r r' : V → Option Int → Option Int → Hp → VK → Prop} (h : SlR X r) (h' : SlR X r') : SlR X (fun x lo hi H Q => r x lo hi H Q ∨ r' x lo hi H Q) := by
  intro pins s σ H x v vl vu lo hi sl Q I rx hs pl pu q
  rcases q with q | q
  · exact h pins s σ H x v vl vu lo hi sl Q I rx hs pl pu q
  · exact h' pins s σ H x v vl vu lo hi sl Q I rx hs pl pu q
def tSl (r : V → Option Int → Option Int → Hp → VK → Prop) (te : TE) (tl th : TO) : TE := fun σ H Q => te σ H fun x H1 => tl σ H1 fun l H2 => th σ H2 fun u H3 => r x l u H3 Q
/-- a[lo:hi], any a -/
theorem pe_slice {r : V → Option Int → Option Int → Hp → VK → Prop} (hr : SlR X r) (he : PE X e te) (hl : PO X lo tl) (hu : PO X hi th) : PE X (.Subscript e (.Slice lo hi none p2) pos) (tSl r te tl th) := by
  intro pins s σ H Q I h
  refine Subscript_ (thn (he pins s σ H _ I h) fun v s1 ⟨x, H1, I1, r1, q1⟩ => ?_)
  refine wpAny_Slice (thn (hl pins s1 σ H1 _ I1 q1) fun vl s2 ⟨l, H2, I2, pl, q2⟩ => thn (hu pins s2 σ H2 _ I2 q2) fun vu s3 ⟨u, H3, I3, pu, q3⟩ => ?_)
  rw [evalPart_none]
  refine wpAny_pure ?_
  have I4 : Inv X pins σ H3 { s3 with heap := s3.heap.push { cls := .type "slice", data := .fields #[vl, vu, .none] } } := I3.kept (t' := s3.toks) fun b ob q => Heap.get?_push_of_some _ q
  obtain ⟨T, id, hT, ht, hg⟩ := hr pins { s3 with heap := s3.heap.push { cls := .type "slice", data := .fields #[vl, vu, .none] } } σ H3 x v vl vu l u s3.heap.objs.size Q I4 r1 (Heap.IsSliceOf.new ..) pl pu q3
  show wpAny (model X.prog X.w) X.A (subscriptTail e (.Slice lo hi none p2) v (.ref s3.heap.objs.size)) (EP X pins σ Q) X.xe { s3 with heap := s3.heap.push { cls := .type "slice", data := .fields #[vl, vu, .none] } }
  exact tail_any (ops := [.ref s3.heap.objs.size, v]) ht hT hg (by with_unfolding_all rfl)

/-- the items of xs[lo:hi] -/
def cutV (xs : List V) (lo hi : Option Int) : List V := (xs.drop (HT.sIx xs.length 0 lo)).take (HT.sIx xs.length xs.length hi - HT.sIx xs.length 0 lo)
theorem cutV_length (xs : List V) (lo hi : Option Int) : (cutV xs lo hi).length ≤ xs.length := by
  unfold cutV
  rw [List.length_take, List.length_drop]
  omega

/-! ### t < u, t + u -/
end
end L2

namespace L2
open PySem PySem.Spec PyProof.Rows

/-! ### places -/
/-- the place that an index of any sign means -/
def ixN (n : Nat) (i : Int) : Option Nat := if 0 ≤ i then (if i < n then some i.toNat else none) else if -(n : Int) ≤ i then some (i + n).toNat else none
def atI {α : Type} (xs : List α) (i : Int) : Option α := (ixN xs.length i).bind fun j => xs[j]?
theorem ixN_seq {n : Nat} {i : Int} {j : Nat} (h : ixN n i = some j) : seqIndex? i n = some j ∧ j < n ∧ -(n : Int) ≤ i ∧ i < n := by
  unfold ixN at h
  by_cases h0 : 0 ≤ i
  · rw [if_pos h0] at h
    by_cases h1 : i < n
    · rw [if_pos h1] at h
      have e : i.toNat = j := Option.some.inj h
      exact ⟨by rw [seqIndex_of h0 h1, e], by omega, by omega, h1⟩
    · rw [if_neg h1] at h; cases h
  · rw [if_neg h0] at h
    by_cases h1 : -(n : Int) ≤ i
    · rw [if_pos h1] at h
      have e : (i + n).toNat = j := Option.some.inj h
      exact ⟨by rw [seqIndex_neg (by omega) h1, e], by omega, h1, by omega⟩
    · rw [if_neg h1] at h; cases h
theorem atI_get {α : Type} {xs : List α} {i : Int} {v : α} (h : atI xs i = some v) : ∃ j, seqIndex? i xs.length = some j ∧ xs[j]? = some v ∧ j < xs.length ∧ -(xs.length : Int) ≤ i ∧ i < xs.length := by
  unfold atI at h
  cases e : ixN xs.length i with
  | none => rw [e] at h; cases h
  | some j =>
    rw [e] at h
    obtain ⟨h1, h2, h3, h4⟩ := ixN_seq e
    exact ⟨j, h1, h, h2, h3, h4⟩
theorem atI_nat {α : Type} {xs : List α} {j : Nat} {v : α} (h : xs[j]? = some v) : atI xs (j : Int) = some v := by
  have hj : j < xs.length := (List.getElem?_eq_some_iff.mp h).1
  have e : ixN xs.length (j : Int) = some j := by
    unfold ixN
    rw [if_pos (by omega), if_pos (by omega)]; simp
  unfold atI; rw [e]; exact h

/-! ### what may be subscripted -/
/-- what stands as an index of a plain subscript -/
def PlainIx (b : Expr) : Prop := ∀ o i, subscripted b false o i = operate [o, i] (getItem o i)
/-- a subscript by values -/
def IxR (X : Cx) (r : R2) : Prop :=
  ∀ (value slice : Expr) (pins : List (Addr × Obj)) (s : Shared) (σ : St) (H : Hp) (x y : V) (v u : Value) (Q : VK), Inv X pins σ H s → RelV x v → RelV y u → r x y H Q →
    subscripted slice false v u = operate [v, u] (getItem v u) → wpAny (model X.prog X.w) X.A (subscriptTail value slice v u) (EP X pins σ Q) X.xe s
/-- a call of a builtin's method by values: the receiver, the arguments -/
def MtR (X : Cx) (id : String) (r : V → List V → Hp → VK → Prop) : Prop :=
  ∀ (pins : List (Addr × Obj)) (s : Shared) (σ : St) (H : Hp) (x : V) (xs : List V) (v : Value) (us : List Value) (Q : VK), Inv X pins σ H s → RelV x v → Vals xs us → r x xs H Q →
    wpAny (model X.prog X.w) X.A (call (.builtin id) (v :: us)) (EP X pins σ Q) X.xe s
section
variable {X : Cx} {a b : Expr} {ta tb : TE} {pos : Pos}
theorem IxR.or {r r' : R2} (h : IxR X r) (h' : IxR X r') : IxR X (fun x y H Q => r x y H Q ∨ r' x y H Q) := by
  intro value slice pins s σ H x y v u Q I rx ry q hs
  rcases q with q | q
  · exact h value slice pins s σ H x y v u Q I rx ry q hs
  · exact h' value slice pins s σ H x y v u Q I rx ry q hs
theorem MtR.or {id : String} {r r' : V → List V → Hp → VK → Prop} (h : MtR X id r) (h' : MtR X id r') : MtR X id (fun x xs H Q => r x xs H Q ∨ r' x xs H Q) := by
  intro pins s σ H x xs v us Q I rx rs q
  rcases q with q | q
  · exact h pins s σ H x xs v us Q I rx rs q
  · exact h' pins s σ H x xs v us Q I rx rs q
/-- a[b] -/
theorem pe_ix {r : R2} (hr : IxR X r) (ha : PE X a ta) (hb : PE X b tb) (hs : PlainIx b) : PE X (.Subscript a b pos) (tOp r ta tb) := by
  intro pins s σ H Q I h
  exact Subscript_ (binT ha hb I h fun v u s2 x y H2 I2 rx ry q => hr a b pins s2 σ H2 x y v u Q I2 rx ry q (hs _ _))

def rIxL (K : PySem.W.Frag) : R2 := fun x y H Q => ∃ p xs i v, x = .ref p ∧ y = .int i ∧ SqL K H p xs ∧ atI xs i = some v ∧ Q v H
theorem ix_list : IxR X (rIxL X.K) := by
  intro value slice pins s σ H x y v u Q I rx ry h hs
  obtain ⟨p, xs, i, z, rfl, rfl, hq, he, q⟩ := h
  cases rx
  obtain ⟨t, rfl⟩ := ry
  obtain ⟨its, r, pl, hz⟩ := I.list hq
  obtain ⟨j, h1, h2, h3, h4, h5⟩ := atI_get he
  obtain ⟨w, ew, rw'⟩ := r.get h2
  have hl := r.length
  have hn := line63
  have fin : EP X pins σ Q w s := ⟨z, H, I, rw', q⟩
  by_cases h0 : 0 ≤ i
  · have hj : i.toNat = j := by
      rw [seqIndex_of h0 h5] at h1
      exact Option.some.inj h1
    exact item_listR pl.isList h0 (by omega) (by rw [hj]; simpa using ew) fin hs
  · have hj : (i + (its.toArray.size : Int)).toNat = j := by
      rw [seqIndex_neg (by omega) h4] at h1
      rw [List.size_toArray, ← hl]
      exact Option.some.inj h1
    exact subscriptTail_builtinR (x := w) pl.isList.typeIs slot_list_getitem.lookup
      (wpAny_getItem_list_neg (Q := fun r s' => r = w ∧ EP X pins σ Q r s') pl.isList (by omega) (by rw [List.size_toArray] <;> omega) (by omega) (by rw [hj]; simpa using ew) ⟨rfl, fin⟩) hs

/-! ### xs[i] = v, any sign -/
/-- the list's object behind a store -/
theorem mapSeq_set (its : List Value) (n j : Nat) (u : Value) : Obj.mapSeq (·.setIfInBounds j u) { cls := .type "list", data := .seq its.toArray n } = { cls := .type "list", data := .seq (its.set j u).toArray n } := by
  simp [Obj.mapSeq]
theorem Inv.lst {pins : List (Addr × Obj)} {σ : St} {H : Hp} {s : Shared} {p : Addr} {xs : List V} (I : Inv X pins σ H s) (h : H p = some (.lst xs)) :
    ∃ (its : List Value) (n : Nat), Vals xs its ∧ s.heap.get? p = some { cls := .type "list", data := .seq its.toArray n } ∧ xs.length ≤ sizeLine := by
  obtain ⟨z, its, n, r, e⟩ := I.hok p _ h
  exact ⟨its, n, r, e, z⟩
/-- the list at p is written by an update of its object -/
theorem Inv.lstUpd {pins : List (Addr × Obj)} {σ : St} {H : Hp} {s : Shared} {p : Addr} {xs ys : List V} {its its' : List Value} {n n' : Nat} {f : Obj → Obj} (I : Inv X pins σ H s) (h : H p = some (.lst xs))
    (ho : s.heap.get? p = some { cls := .type "list", data := .seq its.toArray n }) (hf : f { cls := .type "list", data := .seq its.toArray n } = { cls := .type "list", data := .seq its'.toArray n' }) (r : Vals ys its') (hz : ys.length ≤ sizeLine) (t : Nat) :
    Inv X pins σ (upd H p (.lst ys)) { s with heap := s.heap.update p f, toks := t } := by
  have e : (s.heap.update p f).get? p = some { cls := .type "list", data := .seq its'.toArray n' } := by
    rw [Heap.get?_update_self f ho (by rw [hf] <;> rfl), hf]
  refine I.write (x := p) (e := p) (by rw [h]; trivial) (.inl rfl) (fun b u hb q => (Heap.get?_update_other _ _ (Ne.symm hb)).trans q) ⟨_, e⟩ ?_
  exact ⟨hz, its', n', r, e⟩
def rSetL : V → V → V → Hp → (Hp → Prop) → Prop := fun o i v H Q => ∃ p xs k j, o = .ref p ∧ i = .int k ∧ H p = some (.lst xs) ∧ ixN xs.length k = some j ∧ Q (upd H p (.lst (xs.set j v)))
theorem set_list : PSet X rSetL := by
  intro pins s σ H o i v ov iv u Q I ro ri rv h
  obtain ⟨p, xs, k, j, rfl, rfl, hp, hj, q⟩ := h
  cases ro
  obtain ⟨t, rfl⟩ := ri
  obtain ⟨its, n, r, ho, hz⟩ := I.lst hp
  obtain ⟨h1, h2, h3, h4⟩ := ixN_seq hj
  have hl := r.length
  have hn := line63
  have I' : Inv X pins σ (upd H p (.lst (xs.set j v))) { s with heap := s.heap.update p (Obj.mapSeq (·.setIfInBounds j u)) } :=
    I.lstUpd hp ho (mapSeq_set its n j u) (r.set rv j) (by rw [List.length_set]; exact hz) s.toks
  by_cases h0 : 0 ≤ k
  · have hk : k.toNat = j := by
      rw [seqIndex_of h0 h4] at h1
      exact Option.some.inj h1
    exact PySem.W.ki_setAt ho h0 (by omega) (by rw [List.size_toArray, ← hl]; exact h4) (by rw [hk]; exact ⟨_, I', q⟩)
  · have hk : (k + (its.toArray.size : Int)).toNat = j := by
      rw [seqIndex_neg (by omega) h3] at h1
      rw [List.size_toArray, ← hl]
      exact Option.some.inj h1
    exact PySem.W.ki_setBack ho (by omega) (by rw [List.size_toArray, ← hl]; exact h3) (by omega) (by rw [hk]; exact ⟨_, I', q⟩)

/-! ### slices -/
theorem slice_bounds (lo hi : Option Int) (n : Nat) : (sliceBounds lo hi none n).1 = ((HT.sIx n 0 lo : Nat) : Int) ∧ (sliceBounds lo hi none n).2.1 = ((HT.sIx n n hi : Nat) : Int) ∧ (sliceBounds lo hi none n).2.2 = 1 := by
  refine ⟨?_, ?_, rfl⟩
  · cases lo with
    | none => simp [sliceBounds, HT.sIx]
    | some i =>
      simp only [sliceBounds, HT.sIx, Option.getD_none, show (1 : Int) > 0 by decide, if_true]
      by_cases h : i < 0
      · simp only [h, if_true] <;> omega
      · simp only [h, if_false] <;> omega
  · cases hi with
    | none => simp [sliceBounds, HT.sIx]
    | some i =>
      simp only [sliceBounds, HT.sIx, Option.getD_none, show (1 : Int) > 0 by decide, if_true]
      by_cases h : i < 0
      · simp only [h, if_true] <;> omega
      · simp only [h, if_false] <;> omega
theorem slicePick_cut (its : List Value) (lo hi : Option Int) : slicePick its.toArray lo hi none = ((its.drop (HT.sIx its.length 0 lo)).take (HT.sIx its.length its.length hi - HT.sIx its.length 0 lo)).toArray := by
  obtain ⟨h1, h2, h3⟩ := slice_bounds lo hi its.toArray.size
  unfold slicePick
  rw [h1, h2, h3]
  simp only [sliceRange_one, pick_run, List.size_toArray] <;> rfl
/-- xs[lo:hi] of a list: a new list -/
def rSlL (K : PySem.W.Frag) : V → Option Int → Option Int → Hp → VK → Prop := fun x lo hi H Q => ∃ a xs, x = .ref a ∧ SqL K H a xs ∧ ∀ p, H p = none → Q (.ref p) (upd H p (.lst (cutV xs lo hi)))
theorem sl_list : SlR X (rSlL X.K) := by
  intro pins s σ H x v vl vu lo hi sl Q I rx hs pl pu h
  obtain ⟨a, xs, rfl, hx, q⟩ := h
  cases rx
  obtain ⟨its, r, ht, hz⟩ := I.list hx
  have hlen := r.length
  refine ⟨"list", _, slot_list_getitem.lookup, ht.isList.typeIs, ?_⟩
  refine wpAny_getItem_list_slice ht.isList hs pl pu .none (by simp) ?_ (by rw [List.size_toArray] <;> omega)
  rw [slicePick_cut, ← hlen]
  refine ⟨.ref s.heap.objs.size, _, I.laid (t' := s.toks) (o := .lst (cutV xs lo hi)) (fun b ob q => Heap.get?_push_of_some _ q) (Nat.le_refl _) ?_, rfl, q _ (I.hok.fresh (Nat.le_refl _))⟩
  exact ⟨Nat.le_trans (cutV_length xs lo hi) hz, _, 0, (r.drop (HT.sIx xs.length 0 lo)).take (HT.sIx xs.length xs.length hi - HT.sIx xs.length 0 lo), Heap.get?_push_size _ rfl⟩

/-! ### in, not in: flat items -/
def flatV : V → Bool
  | .non => true
  | .bl _ => true
  | .int _ => true
  | .str _ => true
  | _ => false
/-- == of flat values -/
def eqV : V → V → Bool
  | .non, .non => true
  | .bl a, .bl b => a == b
  | .bl a, .int b => (if a then 1 else 0) == b
  | .int a, .bl b => a == (if b then 1 else 0)
  | .int a, .int b => a == b
  | .str a, .str b => a == b
  | _, _ => false
theorem eqAt_V {A : Around} {s : Shared} {y x : V} {u v : Value} (ry : RelV y u) (rx : RelV x v) (fy : flatV y = true) (fx : flatV x = true) : SeqAt.EqAt A s u v (eqV y x) := by
  cases y with
  | non =>
    cases ry
    cases x with
    | non => cases rx; exact SeqAt.EqAt.same _
    | bl b => cases rx; exact SeqAt.EqAt.none_bool b
    | int b => obtain ⟨t, rfl⟩ := rx; exact SeqAt.EqAt.none_int b t
    | str b => obtain ⟨t, rfl⟩ := rx; exact SeqAt.EqAt.none_str b t
    | _ => exact absurd (show false = true from fx) Bool.false_ne_true
  | bl a =>
    cases ry
    cases x with
    | non => cases rx; exact SeqAt.EqAt.bool_none a
    | bl b => cases rx; exact SeqAt.EqAt.bool_bool a b
    | int b => obtain ⟨t, rfl⟩ := rx; exact SeqAt.EqAt.bool_int a b t
    | str b => obtain ⟨t, rfl⟩ := rx; exact SeqAt.EqAt.bool_str a b t
    | _ => exact absurd (show false = true from fx) Bool.false_ne_true
  | int a =>
    obtain ⟨t', rfl⟩ := ry
    cases x with
    | non => cases rx; exact SeqAt.EqAt.int_none a t'
    | bl b => cases rx; exact SeqAt.EqAt.int_bool a t' b
    | int b => obtain ⟨t, rfl⟩ := rx; exact SeqAt.EqAt.int_int a t' b t
    | str b => obtain ⟨t, rfl⟩ := rx; exact SeqAt.EqAt.int_str a t' b t
    | _ => exact absurd (show false = true from fx) Bool.false_ne_true
  | str a =>
    obtain ⟨t', rfl⟩ := ry
    cases x with
    | non => cases rx; exact SeqAt.EqAt.str_none a t'
    | bl b => cases rx; exact SeqAt.EqAt.str_bool a t' b
    | int b => obtain ⟨t, rfl⟩ := rx; exact SeqAt.EqAt.str_int a t' b t
    | str b => obtain ⟨t, rfl⟩ := rx; exact SeqAt.EqAt.str_str a t' b t
    | _ => exact absurd (show false = true from fx) Bool.false_ne_true
  | _ => exact absurd (show false = true from fy) Bool.false_ne_true
/-- the items' answers, read off the values (a value's own answer does not lean on its token) -/
def eqU (x : V) (u : Value) : Bool := match u with
  | .none => eqV .non x
  | .bool b => eqV (.bl b) x
  | .int i _ => eqV (.int i) x
  | .str z _ => eqV (.str z) x
  | _ => false
theorem eqU_of {x y : V} {u : Value} (r : RelV y u) (f : flatV y = true) : eqU x u = eqV y x := by
  cases y with
  | non => cases r; rfl
  | bl b => cases r; rfl
  | int i => obtain ⟨t, rfl⟩ := r; rfl
  | str z => obtain ⟨t, rfl⟩ := r; rfl
  | _ => exact absurd (show false = true from f) Bool.false_ne_true
theorem any_eqU {x : V} : ∀ {xs : List V} {us : List Value}, Vals xs us → xs.all flatV = true → us.any (eqU x) = xs.any fun y => eqV y x
  | _, _, .nil, _ => rfl
  | y :: xs, u :: us, .cons r t, f => by
    rw [List.all_cons, Bool.and_eq_true] at f
    rw [List.any_cons, List.any_cons, eqU_of r f.1, any_eqU t f.2]
theorem mem_eqAt {A : Around} {s : Shared} {x : V} {v : Value} (rx : RelV x v) (fx : flatV x = true) : ∀ {xs : List V} {us : List Value}, Vals xs us → xs.all flatV = true → ∀ u ∈ us, SeqAt.EqAt A s u v (eqU x u)
  | _, _, .nil, _ => fun u hu => by cases hu
  | y :: xs, u :: us, .cons r t, f => fun u' hu => by
    rw [List.all_cons, Bool.and_eq_true] at f
    rcases List.mem_cons.mp hu with rfl | hu
    · rw [eqU_of r f.1]; exact eqAt_V r rx f.1 fx
    · exact mem_eqAt rx fx t f.2 u' hu
def inV (x : V) (xs : List V) : Bool := xs.any fun y => eqV y x
/-- x in a list or tuple of flat items -/
def rIn (K : PySem.W.Frag) (neg : Bool) : R2 := fun x y H Q => ∃ p xs, y = .ref p ∧ (SqL K H p xs ∨ SqT K H p xs) ∧ flatV x = true ∧ xs.all flatV = true ∧ Q (.bl (if neg then !inV x xs else inV x xs)) H
theorem op_in_seq : OpR X (compareOp .In) (rIn X.K false) := by
  intro pins s σ H x y v u Q I rx ry h
  obtain ⟨p, xs, rfl, hq, fx, fs, q⟩ := h
  cases ry
  rcases hq with hq | hq
  · obtain ⟨its, r, pl, hz⟩ := I.list hq
    refine SeqAt.in_listAt (eqU x) pl.isList (fun w hw => mem_eqAt rx fx r fs w (by simpa using hw)) ⟨.bl _, H, I, rfl, ?_⟩
    rw [show its.toArray.any (eqU x) = its.any (eqU x) by simp, any_eqU r fs]
    exact q
  · obtain ⟨its, r, pl, hz⟩ := I.tuple hq
    refine SeqAt.in_tupleAt (eqU x) pl (fun w hw => mem_eqAt rx fx r fs w (by simpa using hw)) ⟨.bl _, H, I, rfl, ?_⟩
    rw [show its.toArray.any (eqU x) = its.any (eqU x) by simp, any_eqU r fs]
    exact q
theorem op_notIn_seq : OpR X (compareOp .NotIn) (rIn X.K true) := by
  intro pins s σ H x y v u Q I rx ry h
  obtain ⟨p, xs, rfl, hq, fx, fs, q⟩ := h
  cases ry
  rcases hq with hq | hq
  · obtain ⟨its, r, pl, hz⟩ := I.list hq
    refine SeqAt.notIn_listAt (eqU x) pl.isList (fun w hw => mem_eqAt rx fx r fs w (by simpa using hw)) ⟨.bl _, H, I, rfl, ?_⟩
    rw [show its.toArray.any (eqU x) = its.any (eqU x) by simp, any_eqU r fs]
    exact q
  · obtain ⟨its, r, pl, hz⟩ := I.tuple hq
    refine SeqAt.notIn_tupleAt (eqU x) pl (fun w hw => mem_eqAt rx fx r fs w (by simpa using hw)) ⟨.bl _, H, I, rfl, ?_⟩
    rw [show its.toArray.any (eqU x) = its.any (eqU x) by simp, any_eqU r fs]
    exact q

/-! ### len, list(x), tuple(x) of any list or tuple that is read -/
theorem call_len_seq : CallR X (.builtin "len") (fun xs H Q => ∃ p ys, xs = [.ref p] ∧ (SqL X.K H p ys ∨ SqT X.K H p ys) ∧ Q (.int ys.length) H) := by
  intro pins s σ H xs us Q I r h
  obtain ⟨p, ys, rfl, hq, q⟩ := h
  obtain ⟨u, rfl, rx⟩ := vals1 r
  cases rx
  have hn := line63
  rcases hq with hq | hq
  · obtain ⟨its, r', pl, hz⟩ := I.list hq
    have hlen := r'.length
    exact Calls.call_len_list pl.isList (by simp only [List.size_toArray] <;> omega) ⟨.int ys.length, H, I.tok _, ⟨s.toks + 1, by rw [List.size_toArray, hlen]⟩, q⟩
  · obtain ⟨its, r', pl, hz⟩ := I.tuple hq
    have hlen := r'.length
    exact len_tuple pl (by simp only [List.size_toArray] <;> omega) ⟨.int ys.length, H, I.tok _, ⟨s.toks + 1, by rw [List.size_toArray, hlen]⟩, q⟩
theorem CallR.or {f : Value} {r r' : List V → Hp → VK → Prop} (h : CallR X f r) (h' : CallR X f r') : CallR X f (fun xs H Q => r xs H Q ∨ r' xs H Q) := by
  intro pins s σ H xs us Q I rs q
  rcases q with q | q
  · exact h pins s σ H xs us Q I rs q
  · exact h' pins s σ H xs us Q I rs q
theorem call_list_of : CallR X (.type "list") (fun xs H Q => ∃ p ys, xs = [.ref p] ∧ (SqL X.K H p ys ∨ SqT X.K H p ys) ∧ ∀ l, H l = none → Q (.ref l) (upd H l (.lst ys))) := by
  intro pins s σ H xs us Q I r h
  obtain ⟨p, ys, rfl, hq, q⟩ := h
  obtain ⟨u, rfl, rx⟩ := vals1 r
  cases rx
  have fin : ∀ (its : List Value), Vals ys its → ys.length ≤ sizeLine → ∀ (h' : Heap) (c' : Nat), (∀ b o', s.heap.get? b = some o' → h'.get? b = some o') →
      h'.get? s.heap.objs.size = some { cls := .type "list", dict := none, data := .seq its.toArray c', slots := #[] } → EP X pins σ Q (.ref s.heap.objs.size) { s with heap := h' } := fun its r' hz h' c' kp e =>
    ⟨.ref s.heap.objs.size, _, I.laid (t' := s.toks) kp (Nat.le_refl _) (show ObjOk X.prog X.w _ h' _ (.lst ys) from ⟨hz, its, c', r', e⟩), rfl, q _ (I.hok.fresh (Nat.le_refl _))⟩
  rcases hq with hq | hq
  · obtain ⟨its, r', pl, hz⟩ := I.list hq
    have hlen := r'.length
    obtain ⟨o, ho, hc, n, hd⟩ := pl.isList
    exact call_list_seq p (.inl rfl) ho hc hd (fun h' c' kp e => fin its r' hz h' c' kp e) (by simp only [List.size_toArray] <;> omega)
  · obtain ⟨its, r', pl, hz⟩ := I.tuple hq
    have hlen := r'.length
    obtain ⟨o, ho, hc, n, hd⟩ := pl
    exact call_list_seq p (.inr rfl) ho hc hd (fun h' c' kp e => fin its r' hz h' c' kp e) (by simp only [List.size_toArray] <;> omega)

/-! ### the call of a builtin's method: o.m(..) -/
/-- the value is of that builtin type -/
def tyV (K : PySem.W.Frag) (T : String) (x : V) (H : Hp) : Prop := match x with
  | .str _ => T = "str"
  | .int _ => T = "int"
  | .ref p => (T = "list" ∧ ∃ xs, SqL K H p xs) ∨ (T = "tuple" ∧ ∃ o, K.lookup p = some o ∧ o.cls = .type "tuple" ∧ o.dict = none) ∨
      (T = "dict" ∧ ((∃ kvs, H p = some (.dK kvs)) ∨ ∃ kvs, H p = some (.dT kvs))) ∨ (T = "set" ∧ ∃ S n, H p = some (.set S n))
  | _ => False
theorem tyV_is {pins : List (Addr × Obj)} {σ : St} {H : Hp} {s : Shared} {T : String} {x : V} {v : Value} (I : Inv X pins σ H s) (r : RelV x v) (ty : tyV X.K T x H) :
    s.TypeIs v T ∧ ∀ a, v = .ref a → ∃ ob, s.heap.get? a = some ob ∧ ob.dict = none := by
  cases x with
  | str z =>
    obtain ⟨t, rfl⟩ := r
    cases (show T = "str" from ty)
    exact ⟨typeIs_str s z t, fun _ e => nomatch e⟩
  | int i =>
    obtain ⟨t, rfl⟩ := r
    cases (show T = "int" from ty)
    exact ⟨typeIs_int s i t, fun _ e => nomatch e⟩
  | ref p =>
    cases r
    rcases ty with ⟨rfl, xs, hq⟩ | ⟨rfl, o, hk, hc, hd⟩ | ⟨rfl, hk⟩ | ⟨rfl, S, n, hk⟩
    · obtain ⟨its, _, pl, _⟩ := I.list hq
      refine ⟨pl.isList.typeIs, fun a e => ?_⟩
      cases e
      obtain ⟨o, n, e, c, hd, _⟩ := pl
      exact ⟨o, e, hd⟩
    · refine ⟨⟨o, I.kIn p o hk, hc⟩, fun a e => ?_⟩
      cases e
      exact ⟨o, I.kIn _ o hk, hd⟩
    · have z : ∃ o, s.heap.get? p = some o ∧ o.ExactDict := by
        rcases hk with ⟨kvs, hk⟩ | ⟨kvs, hk⟩
        · obtain ⟨_, _, _, _, o, _, _, e, ex, _⟩ := I.hok p _ hk
          exact ⟨o, e, ex⟩
        · obtain ⟨_, _, _, _, o, _, _, e, ex, _⟩ := I.hok p _ hk
          exact ⟨o, e, ex⟩
      obtain ⟨o, e, ex⟩ := z
      refine ⟨⟨o, e, ex.1⟩, fun a e2 => ?_⟩
      cases e2
      exact ⟨o, e, ex.2.1⟩
    · obtain ⟨o, _, _, _, e, ex, _⟩ := I.hok p _ hk
      refine ⟨⟨o, e, ex.1⟩, fun a e2 => ?_⟩
      cases e2
      exact ⟨o, e, ex.2.1⟩
  | _ => exact False.elim ty
def tBM (K : PySem.W.Frag) (T : String) (r : V → List V → Hp → VK → Prop) (to : TE) (t : TA) : TE := fun σ H Q => to σ H fun x H1 => tyV K T x H1 ∧ t σ H1 fun xs H2 => r x xs H2 Q
variable {o e : Expr} {es : List Expr} {to : TE} {t : TA} {name : Str} {apos cpos : Pos} {T id : String} {r : V → List V → Hp → VK → Prop}
theorem pe_bm (pa : PlainAttrs T) (slot : Slot T name id) (hty : typeOf (.builtin id) = pure (.type "method_descriptor")) (hm : MtR X id r) (ho : PE X o to) (ha : PA X (e :: es) t)
    (hbase : attributeBase o name X.env (eval o X.env) = eval o X.env := by rfl)
    (hfew : ((backTo cpos (starEach (e :: es) X.env)).all (fun x => !x.1) && (backToKw cpos (keywordEach [] X.env)).all (fun x => x.1.isSome)
      && decide ((e :: es).length + ([] : List Keyword).length + (if ([] : List Keyword).isEmpty then 0 else 1) < 30)) = true := by rfl)
    (hline : (apos.endLine == cpos.line) = true := by rfl) (hs : starEach (e :: es) X.env = (false, eval e X.env) :: starEach es X.env := by rfl) (hplain : (backTo cpos (starEach es X.env)).any (·.1) = false := by rfl) :
    PE X (.Call (.Attribute o name apos) (e :: es) [] cpos) (tBM X.K T r to t) := by
  intro pins s σ H Q I h
  refine wpAny_Call_method_late hbase hfew hline rfl (thn (ho pins s σ H _ I h) fun v s1 ⟨x, H1, I1, r1, ty, q1⟩ => ?_)
  obtain ⟨h1, h2⟩ := tyV_is I1 r1 ty
  refine ⟨T, id, pa, slot, hty, h1, h2, ?_⟩
  have hA := ha cpos pins s1 σ H1 _ I1 q1
  rw [hs] at hA ⊢
  refine Calls.callWith_builtin (by show (false || (backTo cpos (starEach es X.env)).any (·.1)) = false; rw [hplain] <;> rfl) (Calls.evalArgs_plain ?_)
  exact thn hA fun us s2 ⟨vs, H2, I2, r2, q2⟩ => hm pins s2 σ H2 x vs v us Q I2 r1 r2 q2
/- xs.append(e), list.index on a module's tuple .. are MtR facts of 06m -/
end
end L2

namespace L2
open PySem PySem.Spec PyProof.Rows

def MtM (X : Cx) (id : String) (r : V → List V → Hp → VK → Prop) : Prop :=
  ∀ (pins : List (Addr × Obj)) (s : Shared) (σ : St) (H : Hp) (x : V) (xs : List V) (v : Value) (us : List Value) (Q : VK), Inv X pins σ H s → RelV x v → Vals xs us → r x xs H Q →
    wpAny (model X.prog X.w) X.A (call (.builtin id) (v :: us)) (EP X pins σ Q) X.xe s

/-! ### lists of values -/
theorem Vals.one : ∀ {x : V} {us : List Value}, Vals [x] us → ∃ u, us = [u] ∧ RelV x u
  | _, _, .cons r .nil => ⟨_, rfl, r⟩
theorem Vals.two : ∀ {x y : V} {us : List Value}, Vals [x, y] us → ∃ u v, us = [u, v] ∧ RelV x u ∧ RelV y v
  | _, _, _, .cons r (.cons q .nil) => ⟨_, _, rfl, r, q⟩
theorem Vals.zero : ∀ {us : List Value}, Vals [] us → us = []
  | _, .nil => rfl

section
variable {X : Cx} {pins : List (Addr × Obj)} {σ : St} {H : Hp} {s : Shared} {l b : Addr} {xs ys zs : List V}

/-! ### the two steps: a tracked list is rewritten, a new list is laid -/
theorem Inv.lset {its its' : List Value} {n : Nat} {f : Array Value → Array Value} {t' : Nat} (I : Inv X pins σ H s) (hH : H l = some (.lst xs))
    (e : s.heap.get? l = some { cls := .type "list", data := .seq its.toArray n }) (hf : f its.toArray = its'.toArray) (hv : Vals ys its') (hz : ys.length ≤ sizeLine) :
    Inv X pins σ (upd H l (.lst ys)) { s with heap := s.heap.update l (Obj.mapSeq f), toks := t' } := by
  have q := PySem.IsL.update e f
  rw [hf] at q
  refine I.write (x := l) (e := l) (by rw [hH]; exact trivial) (.inl rfl) (fun b' u hb hu => (Heap.get?_update_other s.heap (Obj.mapSeq f) (Ne.symm hb)).trans hu) ⟨_, q⟩ ?_
  exact ⟨hz, its', _, hv, q⟩
theorem Inv.lnew {its : List Value} {t' : Nat} (I : Inv X pins σ H s) (hv : Vals ys its) (hz : ys.length ≤ sizeLine) :
    Inv X pins σ (upd H s.heap.objs.size (.lst ys)) { s with heap := s.heap.push { cls := .type "list", data := .seq its.toArray }, toks := t' } :=
  I.laid (fun _ _ q => Heap.get?_push_of_some _ q) (Nat.le_refl _) ⟨hz, its, 0, hv, Heap.get?_push_size _ rfl⟩
theorem Inv.fresh (I : Inv X pins σ H s) : H s.heap.objs.size = none := I.hok.fresh (Nat.le_refl _)
theorem Inv.lstM (I : Inv X pins σ H s) (hH : H l = some (.lst xs)) : xs.length ≤ sizeLine ∧ ∃ (its : List Value) (n : Nat), Vals xs its ∧ xs.length = its.length ∧ s.heap.get? l = some { cls := .type "list", data := .seq its.toArray n } := by
  obtain ⟨z, its, n, r, e⟩ := I.hok l _ hH
  exact ⟨z, its, n, r, r.length, e⟩

theorem notLongL {n : Nat} (h : n ≤ sizeLine) : Builtin.List.listTooLong n = false := by
  unfold Builtin.List.listTooLong
  exact decide_eq_false (by omega)
end

section
variable {X : Cx}

/-! ### methods -/
def rAppend : V → List V → Hp → VK → Prop := fun x vs H Q => ∃ l xs y, x = .ref l ∧ vs = [y] ∧ H l = some (.lst xs) ∧ xs.length < sizeLine ∧ Q .non (upd H l (.lst (xs ++ [y])))
theorem mt_append : MtM X "list.append" rAppend := by
  intro pins s σ H x vs v us Q I rx rv h
  obtain ⟨l, xs, y, rfl, rfl, hH, hz, q⟩ := h
  cases rx
  obtain ⟨u, rfl, ru⟩ := rv.one
  obtain ⟨z, its, n, r, hl, e⟩ := I.lstM hH
  refine call_meets F.slot_list_append ⟨_, e, rfl⟩ F.entry_list_append (F.args_list_append_2 _ _) (PySem.list_append l its.toArray n u (by rw [List.size_toArray]; omega)) ⟨e, ?_⟩
  refine ⟨.non, _, I.lset (its' := its ++ [u]) hH e (by simp) (r.append (.cons ru .nil)) ?_, rfl, q⟩
  rw [List.length_append, List.length_singleton]
  omega

def rExtend : V → List V → Hp → VK → Prop := fun x vs H Q => ∃ l b xs zs, x = .ref l ∧ vs = [.ref b] ∧ H l = some (.lst xs) ∧ H b = some (.lst zs) ∧ xs.length + zs.length ≤ sizeLine ∧ Q .non (upd H l (.lst (xs ++ zs)))
theorem mt_extend : MtM X "list.extend" rExtend := by
  intro pins s σ H x vs v us Q I rx rv h
  obtain ⟨l, b, xs, zs, rfl, rfl, hH, hB, hz, q⟩ := h
  cases rx
  obtain ⟨u, rfl, ru⟩ := rv.one
  cases ru
  obtain ⟨z, its, n, r, hl, e⟩ := I.lstM hH
  obtain ⟨z2, its2, n2, r2, hl2, e2⟩ := I.lstM hB
  have hsz : its.toArray.size + its2.toArray.size ≤ sizeLine := by rw [List.size_toArray, List.size_toArray]; omega
  have hlong : ¬ (!its.toArray.isEmpty && Builtin.List.listTooLong (its.toArray.size + its2.toArray.size)) = true := by
    rw [notLongL hsz, Bool.and_false]
    exact Bool.false_ne_true
  refine call_meets F.slot_list_extend ⟨_, e, rfl⟩ F.entry_list_extend (F.args_list_extend_2 _ _)
    (AutoSeq1.list_extend_list_list_0 l its.toArray n b its2.toArray n2 hlong (by rw [List.size_toArray]; omega) (by omega)) ⟨e, e2, ?_⟩
  refine ⟨.non, _, I.lset (its' := its ++ its2) hH e (by simp) (r.append r2) ?_, rfl, q⟩
  rw [List.length_append]
  omega





/-! ### list + list, list += list, list * int -/
def rCat : R2 := fun x y H Q => ∃ l b xs zs, x = .ref l ∧ y = .ref b ∧ H l = some (.lst xs) ∧ H b = some (.lst zs) ∧ xs.length + zs.length ≤ sizeLine ∧ ∀ p, H p = none → Q (.ref p) (upd H p (.lst (xs ++ zs)))
theorem op_cat : OpR X (binaryOp .Add) rCat := by
  intro pins s σ H x y v u Q I rx ry h
  obtain ⟨l, b, xs, zs, rfl, rfl, hH, hB, hz, q⟩ := h
  cases rx
  cases ry
  obtain ⟨z, its, n, r, hl, e⟩ := I.lstM hH
  obtain ⟨z2, its2, n2, r2, hl2, e2⟩ := I.lstM hB
  refine PySem.P.add_list e e2 ?_ (by rw [List.size_toArray, List.size_toArray]; omega)
  have ea : its.toArray ++ its2.toArray = (its ++ its2).toArray := by simp
  rw [ea]
  exact ⟨.ref _, _, I.lnew (t' := s.toks) (r.append r2) (by rw [List.length_append]; omega), rfl, q _ I.fresh⟩

/-! ### del xs[i] -/
end

/-! ### xs[a:b] = ys -/
section
variable {prog : Program} {w : World} {A : Around} {E : Value → Shared → Prop} {s : Shared}
set_option maxRecDepth 100000 in
end

section
variable {X : Cx}
end
end L2

namespace L2
open PySem PySem.Spec PyProof.Rows

theorem Vals.ints : ∀ {ns : List Int} {us : List Value}, Vals (ns.map V.int) us → IntsAre us ns
  | [], us, h => by
    rw [List.map_nil] at h
    cases h
    exact IntsAre.nil
  | n :: ns, us, h => by
    rw [List.map_cons] at h
    cases h with
    | cons r t =>
      obtain ⟨k, rfl⟩ := r
      exact IntsAre.cons n k (Vals.ints t)
theorem Vals.strs : ∀ {xs : List Str} {us : List Value}, Vals (xs.map V.str) us → StrsAre us xs
  | [], us, h => by
    rw [List.map_nil] at h
    cases h
    exact StrsAre.nil
  | x :: xs, us, h => by
    rw [List.map_cons] at h
    cases h with
    | cons r t =>
      obtain ⟨k, rfl⟩ := r
      exact StrsAre.cons x k (Vals.strs t)
theorem Vals.ref1 {a : Addr} {us : List Value} (r : Vals [V.ref a] us) : us = [Value.ref a] := by
  cases r with
  | cons r t =>
    cases t
    cases r
    rfl

/-! ### the library's walks over a list of ints, kept objects alone -/
section
variable {prog : Program} {w : World} {A : Around} {E : Value → Shared → Prop} {s : Shared} {l : Addr} {its : List Value} {ns : List Int} {Q : Value → Shared → Prop}
theorem sum_raw (hh : A.handled = none) (hl : s.heap.IsList l its.toArray) (hi : IntsAre its ns)
    (h : ∀ h' tk t', (∀ b o, s.heap.get? b = some o → h'.get? b = some o) → Q (.int ns.sum t') { s with heap := h', toks := tk }) : wpAny (model prog w) A (call (.builtin "sum") [.ref l]) Q E s := by
  obtain ⟨xs, e⟩ := hi.allInts.items
  have hn : numsOf (intItems xs).toList = ns := by rw [← e]; exact hi.numsOf
  rw [nums_intItems] at hn
  rw [e] at hl
  refine PySem.sum_intListG hh hl fun h' tk t' hk => ?_
  have := h h' tk t' hk
  rw [preSum_eq, List.take_of_length_le (by simp), hn]; exact this
theorem max_raw (hh : A.handled = none) (hl : s.heap.IsList l its.toArray) (hi : IntsAre its ns) (hne : 0 < ns.length)
    (h : ∀ h' tk M t', (∀ b o, s.heap.get? b = some o → h'.get? b = some o) → M ∈ ns → (∀ a, a ∈ ns → a ≤ M) → Q (.int M t') { s with heap := h', toks := tk }) : wpAny (model prog w) A (call (.builtin "max") [.ref l]) Q E s := by
  obtain ⟨xs, e⟩ := hi.allInts.items
  have hn : numsOf (intItems xs).toList = ns := by rw [← e]; exact hi.numsOf
  rw [nums_intItems] at hn
  subst hn
  rw [e] at hl
  have hsz : 0 < xs.size := by simpa using hne
  refine PySem.max_intList hh hl hsz fun v h' tk hv hk => ?_
  obtain ⟨t, rfl⟩ := intItems_at hv
  obtain ⟨h1, h2⟩ := argBest_gt (numAt xs) (xs.size - 1)
  refine h h' tk _ t hk ?_ fun a ha => ?_
  · rw [numAt_eq]; exact PySem.getD_mem (by rw [List.length_map, Array.length_toList]; omega)
  · obtain ⟨j, hj, rfl⟩ := mem_getD ha
    rw [List.length_map, Array.length_toList] at hj
    rw [← numAt_eq]; exact h2 j (by omega)
theorem min_raw (hh : A.handled = none) (hl : s.heap.IsList l its.toArray) (hi : IntsAre its ns) (hne : 0 < ns.length)
    (h : ∀ h' tk M t', (∀ b o, s.heap.get? b = some o → h'.get? b = some o) → M ∈ ns → (∀ a, a ∈ ns → M ≤ a) → Q (.int M t') { s with heap := h', toks := tk }) : wpAny (model prog w) A (call (.builtin "min") [.ref l]) Q E s := by
  obtain ⟨xs, e⟩ := hi.allInts.items
  have hn : numsOf (intItems xs).toList = ns := by rw [← e]; exact hi.numsOf
  rw [nums_intItems] at hn
  subst hn
  rw [e] at hl
  have hsz : 0 < xs.size := by simpa using hne
  refine PySem.min_intList hh hl hsz fun v h' tk hv hk => ?_
  obtain ⟨t, rfl⟩ := intItems_at hv
  obtain ⟨h1, h2⟩ := argBest_lt (numAt xs) (xs.size - 1)
  refine h h' tk _ t hk ?_ fun a ha => ?_
  · rw [numAt_eq]; exact PySem.getD_mem (by rw [List.length_map, Array.length_toList]; omega)
  · obtain ⟨j, hj, rfl⟩ := mem_getD ha
    rw [List.length_map, Array.length_toList] at hj
    rw [← numAt_eq]; exact h2 j (by omega)
end

/-! ### the calls, by values (CallR of 03t; MtR of 06l) -/
section
variable {X : Cx}
/-- sum(xs) of a list of ints -/
def rSum (K : PySem.W.Frag) : List V → Hp → VK → Prop := fun vs H Q => ∃ (a : Addr) (ns : List Int), vs = [V.ref a] ∧ SqL K H a (ns.map V.int) ∧ Q (.int ns.sum) H
/-- max(xs), min(xs) of a list of ints -/
def rMax (K : PySem.W.Frag) : List V → Hp → VK → Prop := fun vs H Q => ∃ (a : Addr) (ns : List Int), vs = [V.ref a] ∧ SqL K H a (ns.map V.int) ∧ 0 < ns.length ∧ ∀ m, m ∈ ns → (∀ y, y ∈ ns → y ≤ m) → Q (.int m) H
def rMin (K : PySem.W.Frag) : List V → Hp → VK → Prop := fun vs H Q => ∃ (a : Addr) (ns : List Int), vs = [V.ref a] ∧ SqL K H a (ns.map V.int) ∧ 0 < ns.length ∧ ∀ m, m ∈ ns → (∀ y, y ∈ ns → m ≤ y) → Q (.int m) H
theorem cr_sum (hc : X.calm = true) : CallR X (.builtin "sum") (rSum X.K) := by
  intro pins s σ H vs us Q I r h
  obtain ⟨a, ns, rfl, hs, q⟩ := h
  obtain ⟨its, rv, hl, _⟩ := I.list hs
  rw [Vals.ref1 r]
  exact sum_raw (I.ok.hd hc) hl.isList rv.ints fun h' tk t' hk => ⟨.int _, H, I.kept hk, ⟨_, rfl⟩, q⟩
theorem cr_max (hc : X.calm = true) : CallR X (.builtin "max") (rMax X.K) := by
  intro pins s σ H vs us Q I r h
  obtain ⟨a, ns, rfl, hs, hne, q⟩ := h
  obtain ⟨its, rv, hl, _⟩ := I.list hs
  rw [Vals.ref1 r]
  exact max_raw (I.ok.hd hc) hl.isList rv.ints hne fun h' tk m t' hk h1 h2 => ⟨.int _, H, I.kept hk, ⟨_, rfl⟩, q m h1 h2⟩
theorem cr_min (hc : X.calm = true) : CallR X (.builtin "min") (rMin X.K) := by
  intro pins s σ H vs us Q I r h
  obtain ⟨a, ns, rfl, hs, hne, q⟩ := h
  obtain ⟨its, rv, hl, _⟩ := I.list hs
  rw [Vals.ref1 r]
  exact min_raw (I.ok.hd hc) hl.isList rv.ints hne fun h' tk m t' hk h1 h2 => ⟨.int _, H, I.kept hk, ⟨_, rfl⟩, q m h1 h2⟩

/-! sorted, sort (fewer than 64 items: the library's own bound) -/
end

/-! ### list.index, flat items -/
section
variable {X : Cx}
end

/-! ### type(x) of an own instance; is, is not of a module's class -/
section
variable {X : Cx}
end

/-! ### any(xs), all(xs) of a list of bools -/
section
variable {X : Cx}
end

/-! ### == and != of data at any depth: none, bools, ints, texts, lists, tuples -/
mutual
inductive Dp (K : PySem.W.Frag) (H : Hp) : V → PyData → Prop
  | non : Dp K H .non .none
  | bl (b : Bool) : Dp K H (.bl b) (.bool b)
  | int (i : Int) : Dp K H (.int i) (.int i)
  | str (x : Str) : Dp K H (.str x) (.str x)
  | lst {a : Addr} {xs : List V} {ds : List PyData} : SqL K H a xs → DpAll K H xs ds → Dp K H (.ref a) (.list ds)
  | tup {a : Addr} {xs : List V} {ds : List PyData} : SqT K H a xs → DpAll K H xs ds → Dp K H (.ref a) (.tuple ds)
inductive DpAll (K : PySem.W.Frag) (H : Hp) : List V → List PyData → Prop
  | nil : DpAll K H [] []
  | cons {v : V} {vs : List V} {d : PyData} {ds : List PyData} : Dp K H v d → DpAll K H vs ds → DpAll K H (v :: vs) (d :: ds)
end
section
variable {X : Cx} {pins : List (Addr × Obj)} {σ : St} {H : Hp} {s : Shared}
mutual
theorem Dp.reads (I : Inv X pins σ H s) : ∀ (d : PyData) (v : V) (u : Value), Dp X.K H v d → RelV v u → ∃ as, Reads s.heap u d as
  | .none, _, _, h, r => by
    cases h
    cases r
    exact ⟨_, Reads.none⟩
  | .bool b, _, _, h, r => by
    cases h
    cases r
    exact ⟨_, Reads.bool b⟩
  | .int i, _, _, h, r => by
    cases h
    obtain ⟨t, rfl⟩ := r
    exact ⟨_, Reads.int i t⟩
  | .str x, _, _, h, r => by
    cases h
    obtain ⟨t, rfl⟩ := r
    exact ⟨_, Reads.str x t⟩
  | .list ds, _, _, h, r => by
    cases h with
    | lst hs ha =>
      cases r
      obtain ⟨its, rv, ⟨o, n, ho, hc, _, hd⟩, _⟩ := I.list hs
      obtain ⟨as, hr⟩ := Dp.readsAll I ds _ its ha rv
      exact ⟨_, Reads.list ho hc hd hr⟩
  | .tuple ds, _, _, h, r => by
    cases h with
    | tup hs ha =>
      cases r
      obtain ⟨its, rv, ⟨o, ho, hc, n, hd⟩, _⟩ := I.tuple hs
      obtain ⟨as, hr⟩ := Dp.readsAll I ds _ its ha rv
      exact ⟨_, Reads.tuple ho hc hd hr⟩
  | .dict _, _, _, h, _ => by cases h
theorem Dp.readsAll (I : Inv X pins σ H s) : ∀ (ds : List PyData) (vs : List V) (us : List Value), DpAll X.K H vs ds → Vals vs us → ∃ as, ReadsAll s.heap us ds as
  | [], _, _, h, r => by
    cases h
    cases r
    exact ⟨_, ReadsAll.nil⟩
  | d :: ds, _, _, h, r => by
    cases h with
    | cons h1 h2 =>
      cases r with
      | cons r1 r2 =>
        obtain ⟨as, q1⟩ := Dp.reads I d _ _ h1 r1
        obtain ⟨bs, q2⟩ := Dp.readsAll I ds _ _ h2 r2
        exact ⟨_, ReadsAll.cons q1 q2⟩
end
end
section
variable {X : Cx}
end
end L2

namespace L2
open PySem PySem.Spec PyProof.Rows
abbrev CellAt (h : Heap) (c : Addr) (v : Option Value) : Prop := h.IsCell c v
def relS (scope sc : Scope) : Scope :=
  { scope with names := scope.names.map fun (n, k) => if (k == .free && sc.kind == .function && sc.names.lookup n == some .cell) then (n, .cell) else (n, k) }

def cloFrom (cells : List (Str × Addr)) : List (Str × NameKind) → List (Str × Addr) → List (Str × Addr)
  | [], acc => acc
  | (n, k) :: r, acc => if k == .free then cloFrom cells r ((n, (cells.lookup n).getD 0) :: acc) else cloFrom cells r acc

theorem closure_loop (env : Env) (f : Str × NameKind → List (Str × Addr) → Sem (ForInStep (List (Str × Addr))))
    (hf : ∀ n k c, f (n, k) c = if k == .free then (do let a ← cellOf env n; pure (.yield ((n, a) :: c))) else pure (.yield c)) :
    ∀ (names : List (Str × NameKind)) (acc : List (Str × Addr)), (∀ y ∈ names, y.2 = .free → ∃ c, env.cells.lookup y.1 = some c) → forIn names acc f = pure (cloFrom env.cells names acc)
  | [], acc, _ => by rw [List.forIn_nil]; rfl
  | (n, k) :: r, acc, h => by
    rw [List.forIn_cons, hf]
    have ih := fun acc => closure_loop env f hf r acc fun y hy => h y (List.mem_cons_of_mem _ hy)
    unfold cloFrom
    by_cases hk : (k == NameKind.free) = true
    · rw [if_pos hk, if_pos hk]
      obtain ⟨c, hc⟩ := h (n, k) List.mem_cons_self (by simpa using hk)
      have e : cellOf env n = pure c := by unfold cellOf; rw [hc]
      rw [e]
      have e2 : (env.cells.lookup n).getD 0 = c := by rw [hc]; rfl
      rw [e2]
      exact ih _
    · rw [if_neg hk, if_neg hk]
      exact ih _
theorem closure_ok {scope : Scope} {env : Env} (h : ∀ y ∈ scope.names, y.2 = .free → ∃ c, env.cells.lookup y.1 = some c) : closureFor scope env = pure (cloFrom env.cells scope.names []) := by
  simp only [closureFor]
  rw [closure_loop env _ (fun n k c => rfl) scope.names [] h]
  rfl

theorem mem_lookup {α : Type} : ∀ {l : List (Str × α)} {n : Str} {c : α}, (n, c) ∈ l → ∃ c', l.lookup n = some c'
  | (k, v) :: r, n, c, h => by
    rw [List.lookup_cons]
    cases hb : n == k with
    | true => exact ⟨_, rfl⟩
    | false =>
      rcases List.mem_cons.mp h with e | h
      · cases e; simp at hb
      · exact mem_lookup h

theorem cloFrom_mem {cells : List (Str × Addr)} : ∀ {names : List (Str × NameKind)} {acc : List (Str × Addr)} {n : Str} {c : Addr}, (n, c) ∈ cloFrom cells names acc → (n, c) ∈ acc ∨ ((n, .free) ∈ names ∧ c = (cells.lookup n).getD 0)
  | [], _, _, _, h => .inl h
  | (m, k) :: r, acc, n, c, h => by
    unfold cloFrom at h
    split at h
    · rename_i hk
      have hk : k = .free := by simpa using hk
      rcases cloFrom_mem h with h | ⟨h1, h2⟩
      · rcases List.mem_cons.mp h with e | h
        · cases e; exact .inr ⟨hk ▸ List.mem_cons_self, rfl⟩
        · exact .inl h
      · exact .inr ⟨List.mem_cons_of_mem _ h1, h2⟩
    · rcases cloFrom_mem h with h | ⟨h1, h2⟩
      · exact .inl h
      · exact .inr ⟨List.mem_cons_of_mem _ h1, h2⟩
theorem cloFrom_acc {cells : List (Str × Addr)} : ∀ {names : List (Str × NameKind)} {acc : List (Str × Addr)} {p : Str × Addr}, p ∈ acc → p ∈ cloFrom cells names acc
  | [], _, _, h => h
  | (m, k) :: r, acc, p, h => by
    unfold cloFrom
    split
    · exact cloFrom_acc (List.mem_cons_of_mem _ h)
    · exact cloFrom_acc h
theorem cloFrom_has {cells : List (Str × Addr)} : ∀ {names : List (Str × NameKind)} {acc : List (Str × Addr)} {n : Str}, (n, .free) ∈ names → (n, (cells.lookup n).getD 0) ∈ cloFrom cells names acc
  | (m, k) :: r, acc, n, h => by
    unfold cloFrom
    rcases List.mem_cons.mp h with e | h
    · cases e
      exact cloFrom_acc List.mem_cons_self
    · split
      · exact cloFrom_has h
      · exact cloFrom_has h

theorem cells_mem : ∀ {names : List (Str × NameKind)} {h : Heap} {acc : List (Str × Addr)} {x : Str} {c : Addr}, (x, c) ∈ cellsFrom h.objs.size names acc →
    (x, c) ∈ acc ∨ ((x, .cell) ∈ names ∧ h.objs.size ≤ c ∧ CellAt (pushCells h names) c none)
  | [], _, _, _, _, h => .inl h
  | (n, k) :: r, h, acc, x, c, hm => by
    unfold cellsFrom at hm
    unfold pushCells
    split at hm
    · rename_i hk
      rw [if_pos hk]
      have hk : k = .cell := by simpa using hk
      rw [← Heap.size_push h { cls := .type "cell", data := .cell none }] at hm
      rcases cells_mem hm with hm | ⟨h1, h2, h3⟩
      · rcases List.mem_cons.mp hm with e | hm
        · cases e
          exact .inr ⟨hk ▸ List.mem_cons_self, Nat.le_refl _, _, pushCells_keeps r _ _ _ (Heap.get?_push_size _ rfl), rfl⟩
        · exact .inl hm
      · rw [Heap.size_push] at h2
        exact .inr ⟨List.mem_cons_of_mem _ h1, Nat.le_of_succ_le h2, h3⟩
    · rename_i hk
      rw [if_neg hk]
      rcases cells_mem hm with hm | ⟨h1, h2, h3⟩
      · exact .inl hm
      · exact .inr ⟨List.mem_cons_of_mem _ h1, h2, h3⟩
theorem cells_acc : ∀ {names : List (Str × NameKind)} {n : Nat} {acc : List (Str × Addr)} {p : Str × Addr}, p ∈ acc → p ∈ cellsFrom n names acc
  | [], _, _, _, h => h
  | (m, k) :: r, n, acc, p, h => by
    unfold cellsFrom
    split
    · exact cells_acc (List.mem_cons_of_mem _ h)
    · exact cells_acc h
theorem cells_has : ∀ {names : List (Str × NameKind)} {n : Nat} {acc : List (Str × Addr)} {x : Str}, (x, .cell) ∈ names → ∃ c, (x, c) ∈ cellsFrom n names acc
  | (m, k) :: r, n, acc, x, h => by
    unfold cellsFrom
    rcases List.mem_cons.mp h with e | h
    · cases e
      exact ⟨n, cells_acc List.mem_cons_self⟩
    · split
      · exact cells_has h
      · exact cells_has h
theorem cells_inj : ∀ {names : List (Str × NameKind)} {h : Heap} {acc : List (Str × Addr)} {x y : Str} {c : Addr}, (∀ p ∈ acc, p.2 < h.objs.size) → (∀ x y c, (x, c) ∈ acc → (y, c) ∈ acc → x = y) →
    (x, c) ∈ cellsFrom h.objs.size names acc → (y, c) ∈ cellsFrom h.objs.size names acc → x = y
  | [], _, _, _, _, _, _, hi, h1, h2 => hi _ _ _ h1 h2
  | (n, k) :: r, h, acc, x, y, c, hl, hi, h1, h2 => by
    unfold cellsFrom at h1 h2
    split at h1
    · rename_i hk
      rw [if_pos hk] at h2
      rw [← Heap.size_push h { cls := .type "cell", data := .cell none }] at h1 h2
      refine cells_inj (h := h.push _) (fun p hp => ?_) (fun x y c a b => ?_) h1 h2
      · rw [Heap.size_push]
        rcases List.mem_cons.mp hp with rfl | hp
        · exact Nat.lt_succ_self _
        · exact Nat.lt_succ_of_lt (hl p hp)
      · rcases List.mem_cons.mp a with e | a <;> rcases List.mem_cons.mp b with e' | b
        · cases e; cases e'; rfl
        · cases e; exact absurd (hl _ b) (Nat.lt_irrefl _)
        · cases e'; exact absurd (hl _ a) (Nat.lt_irrefl _)
        · exact hi _ _ _ a b
    · rename_i hk
      rw [if_neg hk] at h2
      exact cells_inj hl hi h1 h2

theorem newEnv_comp {M : Model} {A : Around} {E : Value → Shared → Prop} {s : Shared} {scope : Scope} {globals : Addr} {closure : List (Str × Addr)} {qual : Str} {func : Option Addr} {code : Value} {around : Env} {builtins : Addr} {Q : Env → Shared → Prop}
    (h : Q (newEnv scope s.heap.objs.size globals (cellsFrom (s.heap.objs.size + 1) scope.names closure) qual func code (some around) builtins)
      { s with heap := pushCells (s.heap.push { cls := .type "dict", data := .dict #[] }) scope.names }) :
    wpAny M A (newFunctionEnv scope globals closure [] qual func code (some around) builtins) Q E s := by
  simp only [newFunctionEnv, Option.isSome_some, if_true]
  refine wpAny_bind (wpAny_alloc ?_)
  refine wpAny_bind (wpAny_layCells _ (fun n k c => rfl) scope.names closure _ _ ?_)
  rw [show ({ s with heap := s.heap.push { cls := .type "dict", data := .dict #[] } } : Shared).heap.objs.size = s.heap.objs.size + 1 from Heap.size_push ..]
  rw [List.forIn_nil]
  exact wpAny_bind (wpAny_pure (wpAny_pure h))

/-- every name of the written scope, in the scope that runs -/
theorem lookup_relS {sc : Scope} : ∀ {names : List (Str × NameKind)} {x : Str} {k : NameKind},
    (names.map fun (n, k) => if (k == NameKind.free && sc.kind == .function && sc.names.lookup n == some .cell) then (n, NameKind.cell) else (n, k)).lookup x = some k →
    ∃ k', names.lookup x = some k' ∧ (k = k' ∨ (k' = .free ∧ k = .cell))
  | [], _, _, h => by simp at h
  | (n, k₀) :: r, x, k, h => by
    have ih := @lookup_relS sc r x k
    have h' : List.lookup x ((if (k₀ == NameKind.free && sc.kind == .function && sc.names.lookup n == some .cell) = true then (n, NameKind.cell) else (n, k₀)) :: (r.map _)) = some k := h
    cases hx : x == n with
    | true =>
      simp only [List.lookup_cons, hx]
      by_cases hc : (k₀ == NameKind.free && sc.kind == .function && sc.names.lookup n == some .cell) = true
      · rw [if_pos hc] at h'
        simp only [List.lookup_cons, hx] at h'
        cases h'
        simp only [Bool.and_eq_true, beq_iff_eq] at hc
        exact ⟨k₀, rfl, .inr ⟨hc.1.1, rfl⟩⟩
      · rw [if_neg hc] at h'
        simp only [List.lookup_cons, hx] at h'
        cases h'
        exact ⟨_, rfl, .inl rfl⟩
    | false =>
      simp only [List.lookup_cons, hx]
      by_cases hc : (k₀ == NameKind.free && sc.kind == .function && sc.names.lookup n == some .cell) = true
      · rw [if_pos hc] at h'
        simp only [List.lookup_cons, hx] at h'
        exact ih h'
      · rw [if_neg hc] at h'
        simp only [List.lookup_cons, hx] at h'
        exact ih h'



/-- the names of a comprehension's block: its own (with their places in N), or captured -/
structure BlkOk (N : List Str) (sc scope : Scope) (own : List (Str × Nat)) : Prop where
  kind : scope.kind = .function
  uniq : ∀ y ∈ scope.names, scope.names.lookup y.1 = some y.2
  ix : ∀ p ∈ own, N[p.2]? = some p.1
  free : ∀ y ∈ scope.names, y.2 = .free → sc.names.lookup y.1 = some .cell ∨ sc.names.lookup y.1 = some .free
  own : ∀ y ∈ scope.names, y.2 = .local ∨ y.2 = .cell → y.1 ∈ own.map (·.1) ∨ y.1 ∉ N
/-- the slots of the block's own names forgotten -/
def wipe (σ : St) : List Nat → St
  | [] => σ
  | v :: vs => (wipe σ vs).set v none
theorem wipe_length (σ : St) : ∀ vs : List Nat, (wipe σ vs).length = σ.length
  | [] => rfl
  | v :: vs => by unfold wipe; rw [List.length_set, wipe_length σ vs]
theorem wipe_some {σ : St} {i : Nat} {x : V} : ∀ {vs : List Nat}, (wipe σ vs)[i]? = some (some x) → σ[i]? = some (some x) ∧ i ∉ vs
  | [], h => ⟨h, by simp⟩
  | v :: vs, h => by
    unfold wipe at h
    by_cases hi : v = i
    · subst hi
      by_cases hv : v < (wipe σ vs).length
      · rw [List.getElem?_set_self hv] at h; cases h
      · rw [List.getElem?_eq_none (by simpa using hv)] at h; cases h
    · rw [List.getElem?_set_ne hi] at h
      obtain ⟨h1, h2⟩ := wipe_some h
      exact ⟨h1, by simp only [List.mem_cons, not_or]; exact ⟨fun e => hi e.symm, h2⟩⟩

/-- the context of a block that starts at s, its iterator's objects at fp -/
abbrev Cx.blk (X : Cx) (s : Shared) (H : Hp) (scope : Scope) (cenv : Env) (fp : List Addr) : Cx := { X with s_0 := s, H_0 := H, env := cenv, outer := X.stack, ex := fp, fn := fun x => scope.names.lookup x == some .cell, pn := [], xe := fun _ _ => False }
section
variable {X : Cx} {pins : List (Addr × Obj)} {σ : St} {H : Hp} {s : Shared}
theorem block_start {scope : Scope} {own : List (Str × Nat)} {fp : List Addr} (I : Inv X pins σ H s) (ok : BlkOk X.N X.env.scope scope own) (hN : X.N.Nodup) (hfp : ∀ b ∈ fp, FpOk X pins H b ∧ b < s.heap.objs.size) :
    Inv (X.blk s H scope (compEnvC scope (cellsFrom (s.heap.objs.size + 1) scope.names (cloFrom X.env.cells scope.names [])) s.heap.objs.size X.env) fp) [] (wipe σ (own.map (·.2))) H { s with heap := pushCells (s.heap.push { cls := .type "dict", data := .dict #[] }) scope.names } := by
  have hfree : ∀ y ∈ scope.names, y.2 = .free → ∃ c, X.env.cells.lookup y.1 = some c := fun y hy e => by
    rcases ok.free y hy e with k | k
    · exact I.ok.has _ (.inl k)
    · exact I.ok.has _ (.inr k)
  generalize hcenv : compEnvC scope (cellsFrom (s.heap.objs.size + 1) scope.names (cloFrom X.env.cells scope.names [])) s.heap.objs.size X.env = cenv
  have kp : ∀ b o, s.heap.get? b = some o → (pushCells (s.heap.push { cls := .type "dict", data := .dict #[] }) scope.names).get? b = some o := fun b o e => pushCells_keeps _ _ _ _ (Heap.get?_push_of_some _ e)
  have hL : cenv.locals = s.heap.objs.size := by rw [← hcenv]; rfl
  have hcl : cenv.cells = cellsFrom (s.heap.objs.size + 1) scope.names (cloFrom X.env.cells scope.names []) := by rw [← hcenv]; rfl
  have hsc : cenv.scope = relS scope X.env.scope := by rw [← hcenv]; rfl
  rw [← Heap.size_push s.heap { cls := .type "dict", data := .dict #[] }] at hcl
  have cm : ∀ {y c}, (y, c) ∈ cloFrom X.env.cells scope.names [] → X.env.cells.lookup y = some c ∧ c < s.heap.objs.size := fun {y c} hm => by
    rcases cloFrom_mem hm with hm | ⟨h1, rfl⟩
    · cases hm
    · obtain ⟨c, hc⟩ := hfree _ h1 rfl
      rw [hc]
      obtain ⟨w, z⟩ := I.cell _ _ hc
      exact ⟨rfl, z.lt⟩
  have mem : ∀ {y c}, cenv.cells.lookup y = some c → (X.env.cells.lookup y = some c ∧ c < s.heap.objs.size) ∨ (s.heap.objs.size + 1 ≤ c ∧ CellAt (pushCells (s.heap.push { cls := .type "dict", data := .dict #[] }) scope.names) c none) := fun {y c} e => by
    rw [hcl] at e
    rcases cells_mem (PySem.mem_of_lookup e) with hm | ⟨_, h2, h3⟩
    · exact .inl (cm hm)
    · rw [Heap.size_push] at h2; exact .inr ⟨h2, h3⟩
  have look : ∀ {y}, scope.names.lookup y = some .free → ∃ c, cenv.cells.lookup y = some c ∧ X.env.cells.lookup y = some c := fun {y} hl => by
    have hy : (y, NameKind.free) ∈ scope.names := PySem.mem_of_lookup hl
    obtain ⟨c', e'⟩ := mem_lookup (cells_acc (names := scope.names) (n := (s.heap.push { cls := .type "dict", data := .dict #[] }).objs.size) (cloFrom_has (cells := X.env.cells) (acc := []) hy))
    rw [← hcl] at e'
    refine ⟨c', e', ?_⟩
    rw [hcl] at e'
    rcases cells_mem (PySem.mem_of_lookup e') with hm | ⟨h1, _, _⟩
    · exact (cm hm).1
    · have := ok.uniq _ h1
      rw [hl] at this; cases this
  have okB : (X.blk s H scope cenv fp).Ok := by
    refine ⟨I.ok.mod, by show cenv.scope.kind = _; rw [hsc]; exact ok.kind, by show cenv.globals = _; rw [← hcenv]; exact I.ok.glob, by show cenv.builtins = _; rw [← hcenv]; exact I.ok.blt, by show s.heap.objs.size ≤ cenv.locals; rw [hL]; exact Nat.le_refl _,
      fun y z c e1 e2 => ?_, fun y hy => ?_, fun y c z e => ?_, I.ok.hd, I.ok.frames, .inl rfl, fun b hb => ⟨?_, fun y c e z => ?_⟩, I.bs, Nat.le_trans I.ok.bsz I.sz, fun b o e hb => ?_, fun b hb z => ?_, I.stack, I.stkFree⟩
    · have e1 : cenv.cells.lookup y = some c := e1
      have e2 : cenv.cells.lookup z = some c := e2
      rw [hcl] at e1 e2
      refine cells_inj (fun p hp => ?_) (fun y z c a b => I.ok.inj y z c (cm a).1 (cm b).1) (PySem.mem_of_lookup e1) (PySem.mem_of_lookup e2)
      rw [Heap.size_push]
      exact Nat.lt_succ_of_lt (cm (y := p.1) (c := p.2) hp).2
    · show ∃ c, cenv.cells.lookup y = some c
      have key : ∀ k, cenv.kindOf y = some k → (k = .cell ∨ k = .free) → ∃ c, cenv.cells.lookup y = some c := fun k hk hk' => by
        unfold Env.kindOf at hk
        rw [hsc] at hk
        obtain ⟨k', e, r⟩ := lookup_relS hk
        have : k' = .cell ∨ k' = .free := by
          rcases r with rfl | ⟨rfl, _⟩
          · exact hk'
          · exact .inr rfl
        rcases this with rfl | rfl
        · obtain ⟨c, hm⟩ := cells_has (n := (s.heap.push { cls := .type "dict", data := .dict #[] }).objs.size) (acc := cloFrom X.env.cells scope.names []) (PySem.mem_of_lookup e)
          obtain ⟨c', e'⟩ := mem_lookup hm
          exact ⟨c', by rw [hcl]; exact e'⟩
        · obtain ⟨c, h1, _⟩ := look e
          exact ⟨c, h1⟩
      rcases hy with hy | hy
      · exact key _ hy (.inl rfl)
      · exact key _ hy (.inr rfl)
    · have z : (scope.names.lookup y == some NameKind.cell) = true := z
      have z : scope.names.lookup y = some .cell := by simpa using z
      have e : cenv.cells.lookup y = some c := e
      rw [hcl] at e
      rcases cells_mem (PySem.mem_of_lookup e) with hm | ⟨_, h2, _⟩
      · rcases cloFrom_mem hm with hm | ⟨h1, _⟩
        · cases hm
        · have q := ok.uniq _ h1
          rw [z] at q; cases q
      · rw [Heap.size_push] at h2
        exact Nat.le_of_succ_le h2
    · show b ≠ cenv.locals
      rw [hL]; exact Nat.ne_of_lt (hfp b hb).2
    · have e : cenv.cells.lookup y = some c := e
      rcases mem e with ⟨h1, _⟩ | ⟨h1, _⟩
      · exact (hfp b hb).1.2.2.2.2.1 y c h1 z
      · have h2 : s.heap.objs.size + 1 ≤ b := by rw [← z]; exact h1
        exact absurd (Nat.lt_of_lt_of_le (hfp b hb).2 (Nat.le_of_succ_le h2)) (Nat.lt_irrefl _)
    · rcases (hfp b hb).1.2.2.2.1 with z | z
      · exact I.ok.noex b o e z
      · exact absurd (Nat.lt_of_lt_of_le (Heap.lt_size e) (Nat.le_trans I.ok.bsz z)) (Nat.lt_irrefl _)
    · rcases List.mem_cons.mp (I.stkSub b z) with z | z
      · exact (hfp b hb).1.2.1 z
      · exact (hfp b hb).1.2.2.1 z
  refine ⟨okB, rfl, I.bare, Un.kept kp, ⟨fun _ => none, ?_, fun i y av e1 e2 e3 => ?_⟩, fun y c e => ?_, ?_, fun y c e => ?_, fun p hp => ?_, I.hok.kept kp, by rw [wipe_length]; exact I.len⟩
  · show Heap.Ns _ cenv.locals _
    rw [hL]
    exact Heap.Ns.keeps (Heap.Ns.new ..) fun b o e => pushCells_keeps _ _ _ _ e
  · obtain ⟨e2, hne⟩ := wipe_some e2
    have hfr : scope.names.lookup y = some .free ∧ (cenv.kindOf y = some .cell ∨ cenv.kindOf y = some .free) := by
      have key : ∀ k, cenv.scope.names.lookup y = some k → k = .local ∨ k = .cell ∨ k = .free → scope.names.lookup y = some .free ∧ (cenv.kindOf y = some .cell ∨ cenv.kindOf y = some .free) := fun k hk hk' => by
        have hk0 := hk
        rw [hsc] at hk
        obtain ⟨k', e, r⟩ := lookup_relS hk
        have no : ¬ (k' = .local ∨ k' = .cell) := fun hh => by
          rcases ok.own _ (PySem.mem_of_lookup e) hh with e' | e'
          · obtain ⟨p, hp, hpy⟩ := List.mem_map.mp e'
            have e3 := ok.ix p hp
            have : p.1 = y := hpy
            rw [this] at e3
            exact hne (List.mem_map.mpr ⟨p, hp, nodup_ix hN e3 e1⟩)
          · exact e' (List.mem_of_getElem? e1)
        rcases r with rfl | ⟨rfl, rfl⟩
        · rcases hk' with rfl | rfl | rfl
          · exact absurd (.inl rfl) no
          · exact absurd (.inr rfl) no
          · exact ⟨e, .inr hk0⟩
        · exact ⟨e, .inl hk0⟩
      have e3 : Vis cenv.scope y := e3
      rcases e3 with e3 | e3 | e3
      · exact key _ e3 (.inl rfl)
      · exact key _ e3 (.inr (.inl rfl))
      · exact key _ e3 (.inr (.inr rfl))
    obtain ⟨m, hn, hl⟩ := I.loc
    have hvis : Vis X.env.scope y := (ok.free _ (PySem.mem_of_lookup hfr.1) rfl).elim (fun k => .inr (.inl k)) (fun k => .inr (.inr k))
    obtain ⟨w, r, q⟩ := hl i y av e1 e2 hvis
    refine ⟨w, r, .inr ⟨hfr.2, ?_⟩⟩
    obtain ⟨c, h1, h2⟩ := look hfr.1
    rcases q with ⟨k, _⟩ | ⟨_, c', e', z⟩
    · have k : X.env.scope.names.lookup y = some .local := k
      rcases ok.free _ (PySem.mem_of_lookup hfr.1) rfl with k' | k' <;> rw [show X.env.scope.names.lookup y = _ from k'] at k <;> cases k
    · rw [h2] at e'; cases e'
      exact ⟨c, h1, z.keeps kp⟩
  · have e : cenv.cells.lookup y = some c := e
    rcases mem e with ⟨h1, _⟩ | ⟨_, z⟩
    · obtain ⟨w, z⟩ := I.cell y c h1
      exact ⟨w, z.keeps kp⟩
    · exact ⟨_, z⟩
  · show H cenv.locals = none
    rw [hL]; exact I.hok.fresh (Nat.le_refl _)
  · have e : cenv.cells.lookup y = some c := e
    rcases mem e with ⟨h1, _⟩ | ⟨h1, _⟩
    · exact I.freeC y c h1
    · exact I.hok.fresh (Nat.le_of_succ_le h1)
  · exact absurd (show p ∈ ([] : List (Addr × Obj)) ++ [] from hp) (by simp)

/-- an item appended to a tracked list -/
theorem app_ok {E : Value → Shared → Prop} {D : Addr} {xs : List V} {y : V} {v : Value} {Q : Value → Shared → Prop} (I : Inv X pins σ H s) (hD : H D = some (.lst xs)) (hz : xs.length < sizeLine) (r : RelV y v)
    (h : ∀ s', Inv X pins σ (upd H D (.lst (xs ++ [y]))) s' → Q .none s') : wpAny (model X.prog X.w) X.A (call (.builtin "list.append") [.ref D, v]) Q E s := by
  obtain ⟨hz', its, n, ri, e⟩ := I.hok D _ hD
  have hl := ri.length
  refine append_at (hsz := by rw [List.size_toArray]; omega) e fun h' sb ho' => ?_
  refine h { s with heap := h' } (I.write (t' := s.toks) (by rw [hD]; trivial) (.inl rfl) (fun b u hb q => (sb.2 b hb).trans q) ⟨_, ho'⟩ ⟨by rw [List.length_append]; exact hz, its ++ [v], n + 1, ri.append (.cons r .nil), ?_⟩)
  rw [ho']
  simp

/-- a clause's tests -/
def PTs (X : Cx) (ifs : List Expr) (t : TT) : Prop :=
  ∀ (pins : List (Addr × Obj)) (s : Shared) (σ : St) (H : Hp) (Q : Bool → Hp → Prop), Inv X pins σ H s → t σ H Q →
    wpAny (model X.prog X.w) X.A (forIn ifs true fun c r => if r = true then do let ok ← isTrue c X.env (eval c X.env); pure (ForInStep.yield ok) else pure (ForInStep.yield r)) (TP X pins σ Q) X.xe s
def tYes : TT := fun _ H Q => Q true H
theorem pts_nil : PTs X [] tYes := fun _ _ _ H _ I h => wpAny_tests_nil ⟨H, I, h⟩
theorem pts_one {c : Expr} {t : TT} (h : PT X c t) : PTs X [c] t := fun pins s σ H Q I hw => wpAny_tests_one (h pins s σ H Q I hw)
end

theorem thnF {α : Type} {t : Sem α} {Q Q' : α → Shared → Prop} {M : Model} {A : Around} {E : Value → Shared → Prop} {s : Shared} (h : wpAny M A t Q (fun _ _ => False) s) (hQ : ∀ a s, Q a s → Q' a s) : wpAny M A t Q' E s := wpAny_mono h hQ fun _ _ z => False.elim z

/-- the loop of a list comprehension's block, the target of any form (codeAny_compLoop_tests asks a target that no tuple goes to; statement and proof follow it, PyProof/CompMap.lean:41-61, with the step letOwnedTupleGo kept) -/
theorem compLoop_any {prog : Program} {w : World} {A : Around} {R : Result → Shared → Prop} {s : Shared} {elt target iter : Expr} {ifs : List Expr} {scope : Scope} {pos : Pos} {it acc : Value} {env : Env} (I : Nat → Shared → Prop)
    (turn : ∀ n s, I n s → wpAny (model prog w) A (pyNext it) (fun r s₁ => match r with
      | none => R (.ok .next) s₁
      | some v => wpAny (model prog w) A (letOwnedTupleGo target it v) (fun _ s₁' => wpAny (model prog w) A (assign target env v) (fun _ s₂ =>
          wpAny (model prog w) A (forIn ifs true fun c r => if r = true then do let ok ← isTrue c env (eval c env); pure (ForInStep.yield ok) else pure (ForInStep.yield r)) (fun ok s₃ =>
            if ok = true then wpAny (model prog w) A (eval elt env) (fun x s₄ =>
              wpAny (model prog w) A (call (.builtin "list.append") [acc, x]) (fun _ s₅ => ∃ m, m < n ∧ I m s₅) (notedBy (model prog w) A env fun e s' => R (.error e) s') s₄) (notedBy (model prog w) A env fun e s' => R (.error e) s') s₃
            else ∃ m, m < n ∧ I m s₃) (notedBy (model prog w) A env fun e s' => R (.error e) s') s₂) (notedBy (model prog w) A env fun e s' => R (.error e) s') s₁') (notedBy (model prog w) A env fun e s' => R (.error e) s') s₁) (notedBy (model prog w) A env fun e s' => R (.error e) s') s)
    (n : Nat) (h : I n s) :
    codeAny (model prog w) A (.compLoop (.ListComp elt [⟨target, iter, ifs, 0⟩] scope pos) 0 it acc env) R s := by
  refine codeAny_loop rfl I (fun n s hI => ?_) n h
  show wpAny _ A ((compTurn (.ListComp elt [⟨target, iter, ifs, 0⟩] scope pos) 0 it acc env).onRaise (fun x => do noteFrame x env; theTreesLotGoes x)) _ _ s
  refine wpAny_noted ?_
  rw [compTurn_list]
  refine wpAny_bind (wpAny_standAt (wpAny_bind (wpAny_mono (turn n s hI) (fun r s₁ h₁ => ?_) fun _ _ h' => h')))
  cases r with
  | none => exact wpAny_pure h₁
  | some v =>
    refine wpAny_bind (wpAny_mono h₁ (fun _ s₁' h₁' => ?_) fun _ _ h' => h')
    refine wpAny_bind (wpAny_mono h₁' (fun _ s₂ h₂ => wpAny_bind (wpAny_mono h₂ (fun ok s₃ h₃ => ?_) fun _ _ h' => h')) fun _ _ h' => h')
    cases ok with
    | false => exact wpAny_pure ⟨rfl, h₃⟩
    | true =>
      exact wpAny_bind (wpAny_bind (wpAny_mono h₃ (fun x s₄ h₄ => wpAny_bind (wpAny_mono h₄ (fun _ s₅ h₅ => wpAny_pure (wpAny_pure ⟨rfl, h₅⟩)) fun _ _ h' => h')) fun _ _ h' => h'))

section
variable {X : Cx}
/-- [elt for target in iter if ..]: D the new list; W by the turn and a measure, Nx what a turn is to reach -/
def tLc (wi : TI) (g : TG) (tt : TT) (te : TE) (vs : List Nat) : TE := fun σ H Q => wi σ H fun J H1 => ∀ D, H1 D = none → ∃ W : Nat → Nat → Hp → Prop, (∃ m, W 0 m (upd H1 D (.lst []))) ∧ ∀ i m H, W i m H →
  (J.stop i H ∧ Q (.ref D) H) ∨ (J.go i H ∧ ∃ Nx : Hp → Prop, (∀ H', Nx H' → ∃ m', m' < m ∧ W (i + 1) m' H') ∧ ∀ x H', J.yld i H x H' → g x (wipe σ vs) H' fun σ2 H2 => wipe σ2 vs = wipe σ vs ∧ tt σ2 H2 fun b H3 =>
    if b = true then te σ2 H3 fun y H4 => ∃ acc, H4 D = some (.lst acc) ∧ acc.length < sizeLine ∧ Nx (upd H4 D (.lst (acc ++ [y]))) else Nx H3)
theorem lc_core {pins : List (Addr × Obj)} {s : Shared} {σ : St} {H : Hp} {Q : VK} {elt tg iter : Expr} {ifs : List Expr} {scope : Scope} {own : List (Str × Nat)} {pos pos' : Pos} {wi : TI} {g : TG} {tt : TT} {te : TE} {use : Option (Value → Sem Unit)} {Qf : Value → Shared → Prop}
    (hc : X.calm = true) (hN : X.N.Nodup) (I : Inv X pins σ H s) (hi : PI X tg iter wi) (ok : BlkOk X.N X.env.scope scope own)
    (hg : ∀ (s : Shared) (H : Hp) (C : Addr) (cl : List (Str × Addr)) (fp : List Addr), PG (X.blk s H scope (compEnvC scope cl C X.env) fp) tg g) (ht : ∀ (s : Shared) (H : Hp) (C : Addr) (cl : List (Str × Addr)) (fp : List Addr), PTs (X.blk s H scope (compEnvC scope cl C X.env) fp) ifs tt)
    (he : ∀ (s : Shared) (H : Hp) (C : Addr) (cl : List (Str × Addr)) (fp : List Addr), PE (X.blk s H scope (compEnvC scope cl C X.env) fp) elt te) (hs : ∀ x, foldedSetIterable iter X.env x = pure x)
    (h : tLc wi g tt te (own.map (·.2)) σ H Q)
    (hRR : ∀ D C s' m H', Inv X pins σ H' s' → Q (.ref D) H' → s'.heap.Ns C m → FpOk X pins H' C → compPost (model X.prog X.w) X.A X.xe use Qf (.ref D) C (.ok .next) s') :
    wpAny (model X.prog X.w) X.A (comprehension (.ListComp elt [⟨tg, iter, ifs, 0⟩] scope pos) scope X.env pos' (newList []) false (eval iter X.env) use) Qf X.xe s := by
  have hfree : ∀ y ∈ scope.names, y.2 = .free → ∃ c, X.env.cells.lookup y.1 = some c := fun y hy e => by
    rcases ok.free y hy e with k | k
    · exact I.ok.has _ (.inl k)
    · exact I.ok.has _ (.inr k)
  refine wpAny_comprehension_free (use := use) rfl hs (closure_ok hfree) ok.kind (fun y hy e => by rw [ok.uniq y hy, e])
    (thn (hi pins s σ H _ I h) fun xv s1 hx => thn hx fun itv s2 h2 => ?_)
  obtain ⟨it, fp, tn, J, H2, e, I2, T, st2, f2, q⟩ := h2
  subst e
  refine wpAny_newObj_type (newEnv_comp ?_) (by show 0 ≤ sizeLine; decide)
  generalize hD : s2.heap.objs.size = D
  have hDn : H2 D = none := I2.hok.fresh (Nat.le_of_eq hD)
  obtain ⟨W, ⟨m0, w0⟩, turn⟩ := q D hDn
  -- the new list
  generalize hs3 : ({ s2 with heap := s2.heap.push { cls := .type "list", data := .seq ([] : List Value).toArray } } : Shared) = s3
  have I3 : Inv X pins σ (upd H2 D (.lst [])) s3 := by
    rw [← hs3]
    refine I2.laid (t' := s2.toks) (fun b o e => Heap.get?_push_of_some _ e) (Nat.le_of_eq hD) ⟨Nat.zero_le _, [], 0, .nil, ?_⟩
    rw [← hD]
    exact Heap.get?_push_size _ rfl
  have h3 : s3.heap = s2.heap.push { cls := .type "list", data := .seq ([] : List Value).toArray } := by rw [← hs3]
  have sz : ∀ b ∈ fp, b < s2.heap.objs.size := fun b hb => by
    obtain ⟨o, e, _⟩ := T.obj _ _ st2 b hb
    exact Heap.lt_size e
  have f3 : ∀ b ∈ fp, FpOk X pins (upd H2 D (.lst [])) b ∧ b < s3.heap.objs.size := fun b hb => by
    have hlt := sz b hb
    refine ⟨⟨?_, (f2 b hb).2⟩, by rw [h3, Heap.size_push]; exact Nat.lt_succ_of_lt hlt⟩
    rw [upd_ne (by rw [← hD]; exact Nat.ne_of_lt hlt)]
    exact (f2 b hb).1
  have st3 : tn 0 s3.heap := T.keep _ _ _ st2 fun b _ o e => by rw [h3]; exact Heap.get?_push_of_some _ e
  have I4 := block_start I3 ok hN f3
  have pg := hg s3 (upd H2 D (.lst [])) s3.heap.objs.size (cellsFrom (s3.heap.objs.size + 1) scope.names (cloFrom X.env.cells scope.names [])) fp
  have pt := ht s3 (upd H2 D (.lst [])) s3.heap.objs.size (cellsFrom (s3.heap.objs.size + 1) scope.names (cloFrom X.env.cells scope.names [])) fp
  have pe := he s3 (upd H2 D (.lst [])) s3.heap.objs.size (cellsFrom (s3.heap.objs.size + 1) scope.names (cloFrom X.env.cells scope.names [])) fp
  show codeAny _ _ (.compStart (.ListComp elt [⟨tg, iter, ifs, 0⟩] scope pos) 0 (.ref it) (.ref D) (compEnvC scope (cellsFrom (s3.heap.objs.size + 1) scope.names (cloFrom X.env.cells scope.names [])) s3.heap.objs.size X.env)) (compPost (model X.prog X.w) X.A X.xe use Qf (.ref D) s3.heap.objs.size) { s3 with heap := pushCells (s3.heap.push { cls := .type "dict", data := .dict #[] }) scope.names }
  have nfp : ∀ b ∈ fp, (upd H2 D (.lst [])) b = none := fun b hb => (f3 b hb).1.1
  generalize hce : compEnvC scope (cellsFrom (s3.heap.objs.size + 1) scope.names (cloFrom X.env.cells scope.names [])) s3.heap.objs.size X.env = ce at I4 pg pt pe ⊢
  have cL : ce.locals = s3.heap.objs.size := by subst hce; rfl
  generalize hH3 : upd H2 D (.lst []) = H3 at I3 I4 pg pt pe w0 nfp f3
  generalize hs4 : ({ s3 with heap := pushCells (s3.heap.push { cls := .type "dict", data := .dict #[] }) scope.names } : Shared) = s4 at I4 ⊢
  have st4 : tn 0 s4.heap := T.keep _ _ _ st3 fun b _ o e => by rw [← hs4]; exact pushCells_keeps _ _ _ _ (Heap.get?_push_of_some _ e)
  have stat : ∀ {σ' : St} {H' : Hp} {s' : Shared}, Inv (X.blk s3 H3 scope ce fp) [] σ' H' s' → (∀ b ∈ fp, H' b = none) → ∀ b ∈ fp, FpOk (X.blk s3 H3 scope ce fp) [] H' b := fun {σ' H' s'} I' hn b hb =>
    ⟨hn b hb, (I'.ok.exf b hb).1, I'.ok.exfs b hb, .inl hb, fun x c e => (I'.ok.exf b hb).2 x c e, fun p hp => absurd (show p ∈ ([] : List (Addr × Obj)) ++ [] from hp) (by simp)⟩
  have loop : codeAny (model X.prog X.w) X.A (.compLoop (.ListComp elt [⟨tg, iter, ifs, 0⟩] scope pos) 0 (.ref it) (.ref D) ce) (compPost (model X.prog X.w) X.A X.xe use Qf (.ref D) s3.heap.objs.size) s4 := by
    refine compLoop_any (fun n s' => ∃ i H', Inv (X.blk s3 H3 scope ce fp) [] (wipe σ (own.map (·.2))) H' s' ∧ tn i s'.heap ∧ (∀ b ∈ fp, H' b = none) ∧ W i n H') ?_ m0 ⟨0, H3, I4, st4, nfp, w0⟩
    rintro n s5 ⟨i, H5, I5, st5, n5, w5⟩
    rcases turn i n H5 w5 with ⟨stop, qq⟩ | ⟨go, Nx, hNx, step⟩
    · have td := T.done (X.blk s3 H3 scope ce fp) rfl rfl rfl hc i [] s5 _ H5 (fun _ _ => False) I5 (stat I5 n5) st5 stop
      refine thnF td fun r s6 ⟨hr, I6⟩ => ?_
      subst hr
      -- back in the def's context
      have I7 : Inv X pins σ H5 s6 := I3.call' (ch := fp) I6.os I6.base I6.hok I6.bare fun b hb => ⟨(f3 b hb).1.2.2.2.1, (f3 b hb).1.2.1, (f3 b hb).1.2.2.2.2.1, (f3 b hb).1.2.2.2.2.2⟩
      have nC : H5 s3.heap.objs.size = none := by
        have z : H5 ce.locals = none := I6.free
        rw [cL] at z
        exact z
      obtain ⟨m, hn, _⟩ := I6.loc
      have hn : s6.heap.Ns ce.locals m := hn
      rw [cL] at hn
      exact hRR D s3.heap.objs.size s6 m H5 I7 qq hn (I3.fpOk (Nat.le_refl _) nC)
    · have ti := T.item (X.blk s3 H3 scope ce fp) rfl rfl rfl hc i [] s5 _ H5 (fun _ _ => False) I5 (stat I5 n5) st5 go
      refine thnF ti fun r s6 ⟨u, hr, h6⟩ => ?_
      subst hr
      refine thnF h6 fun _ s7 ⟨x, H7, I7, r7, y7, st7, n7⟩ => ?_
      have I7' := I7.pinned (stat I7 n7) (T.obj _ _ st7)
      refine thnF (pg _ s7 _ H7 x u _ I7' r7 (step x H7 y7)) fun _ s8 ⟨σ8, H8, I8, hw8, q8⟩ => ?_
      refine thnF (pt _ s8 σ8 H8 _ I8 q8) fun b s9 ⟨H9, I9, q9⟩ => ?_
      -- the turn's end
      have fin : ∀ {s' : Shared} {H' : Hp}, Inv (X.blk s3 H3 scope ce fp) ([] ++ pinsAt fp s7.heap) σ8 H' s' → Nx H' → ∃ m, m < n ∧ ∃ i H', Inv (X.blk s3 H3 scope ce fp) [] (wipe σ (own.map (·.2))) H' s' ∧ tn i s'.heap ∧ (∀ b ∈ fp, H' b = none) ∧ W i m H' := fun {s' H'} I' nx => by
        obtain ⟨m', hm, w'⟩ := hNx H' nx
        have pin' : ∀ b ∈ fp, ∀ o, s7.heap.get? b = some o → s'.heap.get? b = some o ∧ H' b = none := fun b hb o e =>
          let z := I'.pin (b, o) (List.mem_append_right _ (List.mem_append_right _ (mem_pinsAt hb e)))
          ⟨z.1, z.2.1⟩
        have hl : (wipe σ (own.map (·.2))).length = σ8.length := by rw [← hw8, wipe_length]
        refine ⟨m', hm, i + 1, H', (I'.unpinned (pins := [])).weak hl (fun j v e => ?_), T.keep _ _ _ st7 fun b hb o e => (pin' b hb o e).1, fun b hb => ?_, w'⟩
        · rw [← hw8] at e
          exact (wipe_some e).1
        · obtain ⟨o, e, _⟩ := T.obj _ _ st7 b hb
          exact (pin' b hb o e).2
      cases b with
      | false =>
        simp only [Bool.false_eq_true, if_false] at q9 ⊢
        exact fin I9 q9
      | true =>
        simp only [if_true] at q9 ⊢
        refine thnF (pe _ s9 σ8 H9 _ I9 q9) fun z s10 ⟨yv, H10, I10, r10, acc, hD10, hz10, nx⟩ => ?_
        exact app_ok (X := X.blk s3 H3 scope ce fp) I10 hD10 hz10 r10 fun s11 I11 => fin I11 nx
  exact codeAny_compStart_list loop (T.self X.A 0 _ _ _ st4 loop)
/-- as a value -/
theorem pe_lc {elt tg iter : Expr} {ifs : List Expr} {scope : Scope} {own : List (Str × Nat)} {pos : Pos} {wi : TI} {g : TG} {tt : TT} {te : TE} (hc : X.calm = true) (hN : X.N.Nodup) (hi : PI X tg iter wi) (ok : BlkOk X.N X.env.scope scope own)
    (hg : ∀ (s : Shared) (H : Hp) (C : Addr) (cl : List (Str × Addr)) (fp : List Addr), PG (X.blk s H scope (compEnvC scope cl C X.env) fp) tg g) (ht : ∀ (s : Shared) (H : Hp) (C : Addr) (cl : List (Str × Addr)) (fp : List Addr), PTs (X.blk s H scope (compEnvC scope cl C X.env) fp) ifs tt)
    (he : ∀ (s : Shared) (H : Hp) (C : Addr) (cl : List (Str × Addr)) (fp : List Addr), PE (X.blk s H scope (compEnvC scope cl C X.env) fp) elt te) (hs : ∀ x, foldedSetIterable iter X.env x = pure x := by intro _; rfl) :
    PE X (.ListComp elt [⟨tg, iter, ifs, 0⟩] scope pos) (tLc wi g tt te (own.map (·.2))) := by
  intro pins s σ H Q I h
  rw [eval_ListComp]
  refine lc_core hc hN I hi ok hg ht he hs h fun D C s' m H' I' q hn f => ⟨m, hn, fun h'' sb => ?_⟩
  obtain ⟨f0, f1, f2, f3, f4, f5⟩ := f
  exact ⟨.ref D, H', I'.turned (t' := s'.toks) (fun b o hb e => (sb.2 b hb).trans e) f0 f1 f3 f4 f5, rfl, q⟩
/-- name = [..] on one line, the name a local -/
theorem ps_setLc {i : Nat} {y : Str} {py : Pos} {elt tg iter : Expr} {ifs : List Expr} {scope : Scope} {own : List (Str × Nat)} {pos spos : Pos} {wi : TI} {g : TG} {tt : TT} {te : TE} (hc : X.calm = true) (hN : X.N.Nodup) (hy : X.N[i]? = some y) (hyl : X.env.scope.names.lookup y = some .local)
    (hsw : swapsWith (.ListComp elt [⟨tg, iter, ifs, 0⟩] scope pos) (some (.Name y py)) spos.line X.env = pure true) (hi : PI X tg iter wi) (ok : BlkOk X.N X.env.scope scope own)
    (hg : ∀ (s : Shared) (H : Hp) (C : Addr) (cl : List (Str × Addr)) (fp : List Addr), PG (X.blk s H scope (compEnvC scope cl C X.env) fp) tg g) (ht : ∀ (s : Shared) (H : Hp) (C : Addr) (cl : List (Str × Addr)) (fp : List Addr), PTs (X.blk s H scope (compEnvC scope cl C X.env) fp) ifs tt)
    (he : ∀ (s : Shared) (H : Hp) (C : Addr) (cl : List (Str × Addr)) (fp : List Addr), PE (X.blk s H scope (compEnvC scope cl C X.env) fp) elt te) (hs : ∀ x, foldedSetIterable iter X.env x = pure x := by intro _; rfl) :
    PS X (.Assign [.Name y py] (.ListComp elt [⟨tg, iter, ifs, 0⟩] scope pos) spos) (tAsg (tLc wi g tt te (own.map (·.2))) (gName i)) := by
  intro pins s σ H D I h
  rw [exec_Assign_Name_used _ _ _ _ hsw]
  refine wpAny_bind (wpAny_standAt (wpAny_bind ?_))
  show wpAny _ X.A (do let _ ← comprehension (.ListComp elt [⟨tg, iter, ifs, 0⟩] scope pos) scope X.env (firstIterPos [⟨tg, iter, ifs, 0⟩] pos) (newList []) false (eval iter X.env) (some (assign (.Name y py) X.env))) _ _ s
  have h : tLc wi g tt te (own.map (·.2)) σ H (fun x H1 => gName i x σ H1 D.nx) := h
  refine wpAny_bind (thn (lc_core (Qf := fun _ s' => SP X pins D .next s') hc hN I hi ok hg ht he hs h fun L C s' m H' I' q hn f => ?_) fun _ s' hq => wpAny_pure (wpAny_pure hq))
  show wpAny _ _ (assign (.Name y py) X.env (.ref L)) _ _ _
  refine wpAny_assign_Name (store_ok2 (v := V.ref L) I' hN hy (.inl hyl) rfl (fun s2 I2 ⟨a, sb, ha⟩ => ?_) (.inr hyl))
  obtain ⟨f0, f1, f2, f3, f4, f5⟩ := f
  have haC : C ≠ a := by
    rcases ha with z | z
    · rw [z]; exact f1
    · exact fun e => f4 y a z e.symm
  refine ⟨m, hn.sameBut sb haC, fun h3 sb3 => ?_⟩
  exact ⟨_, H', I2.turned (t' := s2.toks) (fun b o hb e => (sb3.2 b hb).trans e) f0 f1 f3 f4 f5, q⟩
theorem sw_true {elt : Expr} {gs : List Comprehension} {scope : Scope} {pos py : Pos} {y : Str} {l : Nat} {env : Env} (hk : env.scope.kind = .function) (hy : env.scope.names.lookup y = some .local) (hl : (py.line == pos.line) = true)
    (ha : (scope.names.any fun (n, k) => n == y && (k == .local || k == .cell)) = false) : swapsWith (.ListComp elt gs scope pos) (some (.Name y py)) l env = pure true := by
  have ky : env.kindOf y = some .local := hy
  have hb : env.blockKind = .function := by unfold Env.blockKind; rw [hk]; rfl
  unfold swapsWith
  simp only [hb, ky, ha, Expr.pos, hl]
  rfl
end

/-! ### the forms one uses -/
/-- over a range: Pv by the turn and the heap (the new list at D within) -/
theorem lc_range {lo : Int} {n : Nat} {g : TG} {tt : TT} {te : TE} {vs : List Nat} {σ : St} {H1 : Hp} {D : Addr} {Qd : Hp → Prop} (Pv : Nat → Hp → Prop) (h0 : Pv 0 (upd H1 D (.lst [])))
    (hs : ∀ i H, i < n → Pv i H → g (.int (lo + i)) (wipe σ vs) H fun σ2 H2 => wipe σ2 vs = wipe σ vs ∧ tt σ2 H2 fun b H3 =>
      if b = true then te σ2 H3 fun y H4 => ∃ acc, H4 D = some (.lst acc) ∧ acc.length < sizeLine ∧ Pv (i + 1) (upd H4 D (.lst (acc ++ [y]))) else Pv (i + 1) H3) (hd : ∀ H, Pv n H → Qd H) :
    ∃ W : Nat → Nat → Hp → Prop, (∃ m, W 0 m (upd H1 D (.lst []))) ∧ ∀ i m H, W i m H →
      ((Itr lo n).stop i H ∧ Qd H) ∨ ((Itr lo n).go i H ∧ ∃ Nx : Hp → Prop, (∀ H', Nx H' → ∃ m', m' < m ∧ W (i + 1) m' H') ∧ ∀ x H', (Itr lo n).yld i H x H' → g x (wipe σ vs) H' fun σ2 H2 => wipe σ2 vs = wipe σ vs ∧ tt σ2 H2 fun b H3 =>
        if b = true then te σ2 H3 fun y H4 => ∃ acc, H4 D = some (.lst acc) ∧ acc.length < sizeLine ∧ Nx (upd H4 D (.lst (acc ++ [y]))) else Nx H3) := by
  refine ⟨fun i m H => m = n - i ∧ i ≤ n ∧ Pv i H, ⟨n, by simp, Nat.zero_le _, h0⟩, ?_⟩
  rintro i m H ⟨rfl, hi, p⟩
  by_cases hlt : i < n
  · refine .inr ⟨hlt, Pv (i + 1), fun H' p' => ⟨n - (i + 1), by omega, rfl, hlt, p'⟩, fun x H' y => ?_⟩
    obtain ⟨e, y⟩ := y
    subst e y
    exact hs i _ hlt p
  · have e : i = n := by omega
    subst e
    exact .inl ⟨Nat.le_refl _, hd H p⟩
/-- over a list that the block leaves as it is -/
theorem lc_list {K : PySem.W.Frag} {a : Addr} {xs : List V} {g : TG} {tt : TT} {te : TE} {vs : List Nat} {σ : St} {H1 : Hp} {D : Addr} {Qd : Hp → Prop} (Pv : Nat → Hp → Prop) (h0 : Pv 0 (upd H1 D (.lst []))) (hl : ∀ i H, i ≤ xs.length → Pv i H → SqL K H a xs)
    (hs : ∀ i x H, xs[i]? = some x → Pv i H → g x (wipe σ vs) H fun σ2 H2 => wipe σ2 vs = wipe σ vs ∧ tt σ2 H2 fun b H3 =>
      if b = true then te σ2 H3 fun y H4 => ∃ acc, H4 D = some (.lst acc) ∧ acc.length < sizeLine ∧ Pv (i + 1) (upd H4 D (.lst (acc ++ [y]))) else Pv (i + 1) H3) (hd : ∀ H, Pv xs.length H → Qd H) :
    ∃ W : Nat → Nat → Hp → Prop, (∃ m, W 0 m (upd H1 D (.lst []))) ∧ ∀ i m H, W i m H →
      ((Itl K a).stop i H ∧ Qd H) ∨ ((Itl K a).go i H ∧ ∃ Nx : Hp → Prop, (∀ H', Nx H' → ∃ m', m' < m ∧ W (i + 1) m' H') ∧ ∀ x H', (Itl K a).yld i H x H' → g x (wipe σ vs) H' fun σ2 H2 => wipe σ2 vs = wipe σ vs ∧ tt σ2 H2 fun b H3 =>
        if b = true then te σ2 H3 fun y H4 => ∃ acc, H4 D = some (.lst acc) ∧ acc.length < sizeLine ∧ Nx (upd H4 D (.lst (acc ++ [y]))) else Nx H3) := by
  refine ⟨fun i m H => m = xs.length - i ∧ i ≤ xs.length ∧ Pv i H, ⟨xs.length, by simp, Nat.zero_le _, h0⟩, ?_⟩
  rintro i m H ⟨rfl, hi, p⟩
  have q := hl i H hi p
  by_cases hlt : i < xs.length
  · refine .inr ⟨⟨xs, xs[i], q, by simp [hlt]⟩, Pv (i + 1), fun H' p' => ⟨xs.length - (i + 1), by omega, rfl, hlt, p'⟩, fun x H' y => ?_⟩
    obtain ⟨e, y⟩ := y
    subst e
    exact hs i x _ (y xs q) p
  · have e : i = xs.length := by omega
    subst e
    exact .inl ⟨⟨xs, q, Nat.le_refl _⟩, hd H p⟩
/-- over a tuple -/
theorem lc_tup {K : PySem.W.Frag} {a : Addr} {xs : List V} {g : TG} {tt : TT} {te : TE} {vs : List Nat} {σ : St} {H1 : Hp} {D : Addr} {Qd : Hp → Prop} (Pv : Nat → Hp → Prop) (h0 : Pv 0 (upd H1 D (.lst []))) (hl : ∀ i H, i ≤ xs.length → Pv i H → SqT K H a xs)
    (hs : ∀ i x H, xs[i]? = some x → Pv i H → g x (wipe σ vs) H fun σ2 H2 => wipe σ2 vs = wipe σ vs ∧ tt σ2 H2 fun b H3 =>
      if b = true then te σ2 H3 fun y H4 => ∃ acc, H4 D = some (.lst acc) ∧ acc.length < sizeLine ∧ Pv (i + 1) (upd H4 D (.lst (acc ++ [y]))) else Pv (i + 1) H3) (hd : ∀ H, Pv xs.length H → Qd H) :
    ∃ W : Nat → Nat → Hp → Prop, (∃ m, W 0 m (upd H1 D (.lst []))) ∧ ∀ i m H, W i m H →
      ((Itt K a).stop i H ∧ Qd H) ∨ ((Itt K a).go i H ∧ ∃ Nx : Hp → Prop, (∀ H', Nx H' → ∃ m', m' < m ∧ W (i + 1) m' H') ∧ ∀ x H', (Itt K a).yld i H x H' → g x (wipe σ vs) H' fun σ2 H2 => wipe σ2 vs = wipe σ vs ∧ tt σ2 H2 fun b H3 =>
        if b = true then te σ2 H3 fun y H4 => ∃ acc, H4 D = some (.lst acc) ∧ acc.length < sizeLine ∧ Nx (upd H4 D (.lst (acc ++ [y]))) else Nx H3) := by
  refine ⟨fun i m H => m = xs.length - i ∧ i ≤ xs.length ∧ Pv i H, ⟨xs.length, by simp, Nat.zero_le _, h0⟩, ?_⟩
  rintro i m H ⟨rfl, hi, p⟩
  have q := hl i H hi p
  by_cases hlt : i < xs.length
  · refine .inr ⟨⟨xs, xs[i], q, by simp [hlt]⟩, Pv (i + 1), fun H' p' => ⟨xs.length - (i + 1), by omega, rfl, hlt, p'⟩, fun x H' y => ?_⟩
    obtain ⟨e, y⟩ := y
    subst e
    exact hs i x _ (y xs q) p
  · have e : i = xs.length := by omega
    subst e
    exact .inl ⟨⟨xs, q, Nat.le_refl _⟩, hd H p⟩
def blkC (N : List Str) (sc scope : Scope) (own : List (Str × Nat)) : Bool :=
  (match scope.kind with | .function => true | _ => false) && (scope.names.all fun y => decide (scope.names.lookup y.1 = some y.2)) && (own.all fun p => decide (N[p.2]? = some p.1)) &&
    (scope.names.all fun y => match y.2 with
      | .free => (match sc.names.lookup y.1 with | some .cell => true | some .free => true | _ => false)
      | .local => decide (y.1 ∈ own.map (·.1)) || decide (y.1 ∉ N)
      | .cell => decide (y.1 ∈ own.map (·.1)) || decide (y.1 ∉ N)
      | _ => true)
theorem blkOk_by {N : List Str} {sc scope : Scope} {own : List (Str × Nat)} (h : blkC N sc scope own = true) : BlkOk N sc scope own := by
  unfold blkC at h
  simp only [Bool.and_eq_true, List.all_eq_true, decide_eq_true_eq] at h
  obtain ⟨⟨⟨h1, h2⟩, h3⟩, h4⟩ := h
  refine ⟨?_, h2, h3, fun y hy e => ?_, fun y hy e => ?_⟩
  · split at h1
    · assumption
    · cases h1
  · have q := h4 y hy
    simp only [e] at q
    split at q <;> first | exact .inl (by assumption) | exact .inr (by assumption) | cases q
  · have q := h4 y hy
    rcases e with e | e <;> (simp only [e, Bool.or_eq_true, decide_eq_true_eq] at q; exact q)
end L2

namespace L2
open PySem PySem.Spec PyProof.Rows


section
variable {prog : Program} {w : World} {A : Around} {R : Result → Shared → Prop} {s : Shared} {elt t0 i0 t1 i1 : Expr} {ifs0 ifs1 : List Expr} {scope : Scope} {pos : Pos} {it acc : Value} {env : Env}
end

section
variable {X : Cx}
end
end L2

namespace L2
open PySem PySem.Spec PyProof.Rows

/-! ### lists of pairs as tables -/
section
variable {κ : Type} [DecidableEq κ]
def valV (kvs : List (κ × V)) (k : κ) : Option V := (kvs.find? fun kv => decide (kv.1 = k)).map (·.2)
/-- in its place, or at the end -/
def putK (kvs : List (κ × V)) (k : κ) (v : V) : List (κ × V) :=
  if (kvs.any fun kv => decide (kv.1 = k)) = true then kvs.map (fun kv => if kv.1 = k then (kv.1, v) else kv) else kvs ++ [(k, v)]
def dropK (kvs : List (κ × V)) (k : κ) : List (κ × V) := kvs.filter fun kv => decide (kv.1 ≠ k)

theorem valV_pos {p : κ × V} {r : List (κ × V)} {k : κ} (e : p.1 = k) : valV (p :: r) k = some p.2 := by simp [valV, List.find?_cons, e]
theorem valV_neg {p : κ × V} {r : List (κ × V)} {k : κ} (e : ¬ p.1 = k) : valV (p :: r) k = valV r k := by simp [valV, List.find?_cons, e]
theorem valV_any (k : κ) : ∀ kvs : List (κ × V), (kvs.any fun kv => decide (kv.1 = k)) = (valV kvs k).isSome
  | [] => rfl
  | p :: r => by
    rw [List.any_cons]
    by_cases e : p.1 = k
    · simp only [valV_pos e, decide_eq_true e, Bool.true_or, Option.isSome_some]
    · rw [valV_neg e, decide_eq_false e, Bool.false_or]; exact valV_any k r

theorem RelO.isSome_eq {o : Option V} {u : Option Value} (r : RelO o u) : o.isSome = u.isSome := by
  cases o with
  | none => cases u with
    | none => rfl
    | some _ => exact (show False from r).elim
  | some _ => cases u with
    | none => exact (show False from r).elim
    | some _ => rfl
theorem RelO.getD {o : Option V} {u : Option Value} {d : V} {d' : Value} (r : RelO o u) (rd : RelV d d') : RelV (o.getD d) (u.getD d') := by
  cases o with
  | none => cases u with
    | none => exact rd
    | some _ => exact (show False from r).elim
  | some _ => cases u with
    | none => exact (show False from r).elim
    | some _ => exact r

/-- raw tables of the same keys -/
theorem KV.val {kvs : List (κ × V)} {vs : List (κ × Value)} (r : KV kvs vs) (k : κ) : RelO (valV kvs k) (valueAt vs k) := by
  unfold KV at r
  induction r with
  | nil => exact True.intro
  | @cons p q ps qs h t ih =>
    obtain ⟨h1, h2⟩ := h
    by_cases e : p.1 = k
    · have e' : q.1 = k := h1.symm.trans e
      have b : valueAt (q :: qs) k = some q.2 := by simp [valueAt, List.find?_cons, e']
      rw [valV_pos e, b]; exact h2
    · have e' : ¬ q.1 = k := fun z => e (h1.trans z)
      have b : valueAt (q :: qs) k = valueAt qs k := by simp [valueAt, List.find?_cons, e']
      rw [valV_neg e, b]; exact ih
theorem KV.any {kvs : List (κ × V)} {vs : List (κ × Value)} (r : KV kvs vs) (k : κ) : (kvs.any fun kv => decide (kv.1 = k)) = vs.any fun kv => decide (kv.1 = k) := by
  unfold KV at r
  induction r with
  | nil => rfl
  | cons h t ih => rw [List.any_cons, List.any_cons, ih, h.1]
theorem KV.repl {kvs : List (κ × V)} {vs : List (κ × Value)} (r : KV kvs vs) (k : κ) {y : V} {u : Value} (ry : RelV y u) :
    KV (kvs.map fun kv => if kv.1 = k then (kv.1, y) else kv) (vs.map fun kv => if kv.1 = k then (kv.1, u) else kv) := by
  unfold KV at r ⊢
  induction r with
  | nil => exact .nil
  | @cons p q ps qs h t ih =>
    rw [List.map_cons, List.map_cons]
    refine .cons ?_ ih
    obtain ⟨h1, h2⟩ := h
    by_cases e : p.1 = k
    · rw [if_pos e, if_pos (h1.symm.trans e)]; exact ⟨h1, ry⟩
    · rw [if_neg e, if_neg (fun z => e (h1.trans z))]; exact ⟨h1, h2⟩
theorem KV.put {kvs : List (κ × V)} {vs : List (κ × Value)} (r : KV kvs vs) (k : κ) {y : V} {u : Value} (ry : RelV y u) : KV (putK kvs k y) (stored vs k u) := by
  unfold putK stored
  rw [r.any k]
  by_cases e : (vs.any fun kv => decide (kv.1 = k)) = true
  · rw [if_pos e, if_pos e]; exact r.repl k ry
  · rw [if_neg e, if_neg e]; exact Paired.snoc r ⟨rfl, ry⟩
theorem KV.drop {kvs : List (κ × V)} {vs : List (κ × Value)} (r : KV kvs vs) (k : κ) : KV (dropK kvs k) (without vs k) := by
  unfold KV at r ⊢
  unfold dropK without
  induction r with
  | nil => exact .nil
  | @cons p q ps qs h t ih =>
    obtain ⟨h1, h2⟩ := h
    rw [List.filter_cons, List.filter_cons]
    by_cases e : p.1 = k
    · have a : ¬ decide (p.1 ≠ k) = true := by simp [e]
      have b : ¬ decide (q.1 ≠ k) = true := by simp [h1.symm.trans e]
      rw [if_neg a, if_neg b]; exact ih
    · have e' : ¬ q.1 = k := fun z => e (h1.trans z)
      have a : decide (p.1 ≠ k) = true := by simp [e]
      have b : decide (q.1 ≠ k) = true := by simp [e']
      rw [if_pos a, if_pos b]; exact .cons ⟨h1, h2⟩ ih
theorem KV.keys {kvs : List (κ × V)} {vs : List (κ × Value)} (r : KV kvs vs) : kvs.map (·.1) = vs.map (·.1) := by
  unfold KV at r
  induction r with
  | nil => rfl
  | cons h t ih => rw [List.map_cons, List.map_cons, ih, h.1]
theorem KV.length {kvs : List (κ × V)} {vs : List (κ × Value)} (r : KV kvs vs) : kvs.length = vs.length := Paired.length r
end


/-! ### a tracked dict, its keys ints and texts or tuples of these -/

/-- raw entries of a dict with tuple keys -/
abbrev KT (H : Hp) : List (List Key × V) → List (List Key × Addr × Value) → Prop := Paired fun p q => p.1 = q.1 ∧ H q.2.1 = some (.tup (p.1.map kV)) ∧ RelV p.2 q.2.2
theorem KT.val {H : Hp} {kvs : List (List Key × V)} {xs : List (List Key × Addr × Value)} (r : KT H kvs xs) (k : List Key) : RelO (valV kvs k) ((atKey xs k).map (·.2)) := by
  induction r with
  | nil => exact True.intro
  | @cons p q ps qs h t ih =>
    obtain ⟨h1, _, h2⟩ := h
    by_cases e : p.1 = k
    · have e' : q.1 = k := h1.symm.trans e
      have b : atKey (q :: qs) k = some q.2 := by simp [atKey, List.find?_cons, e']
      rw [valV_pos e, b]; exact h2
    · have e' : ¬ q.1 = k := fun z => e (h1.trans z)
      have b : atKey (q :: qs) k = atKey qs k := by simp [atKey, List.find?_cons, e']
      rw [valV_neg e, b]; exact ih
theorem KT.repl {H : Hp} {kvs : List (List Key × V)} {xs : List (List Key × Addr × Value)} (r : KT H kvs xs) (k : List Key) {y : V} {u : Value} (ry : RelV y u) :
    KT H (kvs.map fun kv => if kv.1 = k then (kv.1, y) else kv) (xs.map (putAt k u)) := by
  induction r with
  | nil => exact .nil
  | @cons p q ps qs h t ih =>
    rw [List.map_cons, List.map_cons]
    refine .cons ?_ ih
    obtain ⟨h1, h2, h3⟩ := h
    unfold putAt
    by_cases e : p.1 = k
    · rw [if_pos e, if_pos (h1.symm.trans e)]; exact ⟨h1, h2, ry⟩
    · rw [if_neg e, if_neg (fun z => e (h1.trans z))]; exact ⟨h1, h2, h3⟩
theorem KT.put {H : Hp} {kvs : List (List Key × V)} {xs : List (List Key × Addr × Value)} (r : KT H kvs xs) (k : List Key) {b : Addr} {y : V} {u : Value} (hb : H b = some (.tup (k.map kV))) (ry : RelV y u) :
    KT H (putK kvs k y) (storedH xs k b u) := by
  have e : (kvs.any fun kv => decide (kv.1 = k)) = (atKey xs k).isSome := by
    rw [valV_any, (r.val k).isSome_eq, Option.isSome_map]
  unfold putK storedH
  rw [e]
  by_cases q : (atKey xs k).isSome = true
  · rw [if_pos q, if_pos q]; exact r.repl k ry
  · rw [if_neg q, if_neg q]; exact Paired.snoc r ⟨rfl, hb, ry⟩
theorem KT.keeps {H H' : Hp} {kvs : List (List Key × V)} {xs : List (List Key × Addr × Value)} (r : KT H kvs xs) (ht : ∀ b ys, H b = some (.tup ys) → H' b = some (.tup ys)) : KT H' kvs xs :=
  Paired.mapP r fun _ _ z => ⟨z.1, ht _ _ z.2.1, z.2.2⟩

section
variable {P : Program} {w : World} {H : Hp} {h : Heap} {a : Addr}
end

/-- what the dict at a holds at the key y -/
def DGet (H : Hp) (a : Addr) (y : V) (r : Option V) : Prop :=
  (∃ kvs k, Rd H a (.dK kvs) ∧ y = kV k ∧ r = valV kvs k) ∨ ∃ kvs k b, Rd H a (.dT kvs) ∧ y = .ref b ∧ H b = some (.tup (k.map kV)) ∧ r = valV kvs k
/-- the heap behind a[y] = v -/
def DPut (H : Hp) (a : Addr) (y v : V) (H' : Hp) : Prop :=
  (∃ kvs k, H a = some (.dK kvs) ∧ y = kV k ∧ kvs.length < sizeLine ∧ H' = upd H a (.dK (putK kvs k v))) ∨
  ∃ kvs k b, H a = some (.dT kvs) ∧ y = .ref b ∧ H b = some (.tup (k.map kV)) ∧ kvs.length < sizeLine ∧ H' = upd H a (.dT (putK kvs k v))
theorem DGet.k {H : Hp} {a : Addr} {kvs : List (Key × V)} {k : Key} (e : H a = some (.dK kvs)) : DGet H a (kV k) (valV kvs k) := .inl ⟨kvs, k, .inl e, rfl, rfl⟩
theorem DGet.t {H : Hp} {a b : Addr} {kvs : List (List Key × V)} {k : List Key} (e : H a = some (.dT kvs)) (eb : H b = some (.tup (k.map kV))) : DGet H a (.ref b) (valV kvs k) := .inr ⟨kvs, k, b, .inl e, rfl, eb, rfl⟩
theorem DPut.k {H : Hp} {a : Addr} {kvs : List (Key × V)} {k : Key} {v : V} (e : H a = some (.dK kvs)) (hl : kvs.length < sizeLine) : DPut H a (kV k) v (upd H a (.dK (putK kvs k v))) := .inl ⟨kvs, k, e, rfl, hl, rfl⟩
theorem DPut.t {H : Hp} {a b : Addr} {kvs : List (List Key × V)} {k : List Key} {v : V} (e : H a = some (.dT kvs)) (eb : H b = some (.tup (k.map kV))) (hl : kvs.length < sizeLine) :
    DPut H a (.ref b) v (upd H a (.dT (putK kvs k v))) := .inr ⟨kvs, k, b, e, rfl, eb, hl, rfl⟩


section
variable {X : Cx} {pins : List (Addr × Obj)} {σ : St} {H : Hp} {s : Shared} {a : Addr} {y v : V} {u r : Value} {o : Option V} {A : Around} {E : Value → Shared → Prop}


end

section
variable {X : Cx} {pins : List (Addr × Obj)} {σ : St} {H : Hp} {s : Shared} {a : Addr} {kvs : List (Key × V)} {k : Key} {u : Value} {A : Around} {E : Value → Shared → Prop}
end


/-! ### readings and rules -/



section
variable {X : Cx} {o i e value : Expr} {pos pos' tpos : Pos} {td ty tv : TE}
end


/-! ### displays -/
section
variable {X : Cx} {pos : Pos}
end




/-! ### methods -/
/-- a method call o.m(e) of a built-in, with one argument: what must be seen of the text -/
structure M1 (X : Cx) (o : Expr) (m : Str) (apos : Pos) (e : Expr) (cpos : Pos) : Prop where
  base : attributeBase o m X.env (eval o X.env) = eval o X.env
  few : ((backTo cpos (starEach [e] X.env)).all (fun x => !x.1) && (backToKw cpos (keywordEach [] X.env)).all (fun x => x.1.isSome)
    && decide (([e] : List Expr).length + ([] : List Keyword).length + (if ([] : List Keyword).isEmpty then 0 else 1) < 30)) = true
  line : (apos.endLine == cpos.line) = true
  trees : backTo cpos (starEach [e] X.env) = [(false, eval e X.env)]
structure M2 (X : Cx) (o : Expr) (m : Str) (apos : Pos) (e f : Expr) (cpos : Pos) : Prop where
  base : attributeBase o m X.env (eval o X.env) = eval o X.env
  few : ((backTo cpos (starEach [e, f] X.env)).all (fun x => !x.1) && (backToKw cpos (keywordEach [] X.env)).all (fun x => x.1.isSome)
    && decide (([e, f] : List Expr).length + ([] : List Keyword).length + (if ([] : List Keyword).isEmpty then 0 else 1) < 30)) = true
  line : (apos.endLine == cpos.line) = true
  trees : backTo cpos (starEach [e, f] X.env) = [(false, eval e X.env), (false, eval f X.env)]


section
variable {X : Cx} {pins : List (Addr × Obj)} {σ : St} {H : Hp} {s : Shared} {a : Addr} {y d : V} {u r : Value} {o : Option V} {A : Around} {E : Value → Shared → Prop}
end

section
variable {X : Cx} {o e f : Expr} {apos cpos : Pos} {td ty tx : TE}
end

/-! ### dict(d): a copy -/
section
variable {X : Cx} {pins : List (Addr × Obj)} {σ : St} {H : Hp} {s : Shared} {a : Addr} {kvs : List (Key × V)} {A : Around} {E : Value → Shared → Prop}
end


section
variable {X : Cx} {pins : List (Addr × Obj)} {σ : St} {H : Hp} {s : Shared} {a : Addr} {y : V} {u : Value} {A : Around} {E : Value → Shared → Prop}
end
end L2

namespace L2
open PySem PySem.Spec PyProof.Rows


section
variable {prog : Program} {w : World} {A : Around} {E : Value → Shared → Prop}


end

section
variable {X : Cx}
end
end L2

namespace L2
open PySem PySem.Spec PyProof.Rows


section
variable {X : Cx} {pins : List (Addr × Obj)} {σ : St} {H : Hp} {s : Shared} {h' : Heap}

/-! ### locking a thing while a statement runs -/
end
section
variable {X : Cx}

/-! ### one iterator just laid -/
end

/-! ### range with a step -/
/-- range(i, j, c): small bounds, n items -/
def RgC (i j c : Int) (n : Nat) : Prop := c ≠ 0 ∧ c.natAbs < 1073741824 ∧ Builtin.Range.small i j c = true ∧ Builtin.Range.rangeSize i j c = n
theorem RgC.neg {i j : Int} (ha : -(2 ^ 62) ≤ i) (ha' : i < 2 ^ 62) (hb : -(2 ^ 62) ≤ j) (hb' : j < 2 ^ 62) : RgC i j (-1) (i - j).toNat :=
  ⟨by decide, by decide, PySem.W.small_down ha ha' hb hb', PySem.W.rangeSize_downNat i j⟩
section
variable {X : Cx} {tg : Expr}
end

/-! ### reversed(list) -/
section
variable {X : Cx} {tg : Expr}
end

/-! ### a str -/

/-! ### a dict's keys: any dict's entries -/
section
variable {prog : Program} {w : World} {A : Around} {E : Value → Shared → Prop} {s : Shared}
end

/-! ### a locked dict -/
section
variable {X : Cx} {pins : List (Addr × Obj)} {σ : St} {H : Hp} {s : Shared} {d : Addr} {o : Obj}
end

section
variable {P : Program} {w : World} {K : PySem.W.Frag} {tg : Expr} {d : Addr} {o : Obj} {es : Array DictEntry} {ep : Nat}
end

/-! ### for k in d, d.keys(), d.values(), d.items() -/
section
variable {X : Cx} {tg e : Expr} {td : TE} {apos cpos : Pos}
end

/-! ### enumerate(list) -/
/-! ### zip(list, list) -/
end L2

section 
namespace Bits
open PySem PyProof.Rows

theorem nat_and_mul_pow (k : Nat) : ∀ a b : Nat, a < 2 ^ k → a &&& (b * 2 ^ k) = 0 := by
  induction k with
  | zero =>
    intro a b h
    have h0 : a = 0 := by
      rw [Nat.pow_zero] at h
      omega
    subst h0
    simp
  | succ k ih =>
    intro a b h
    have hm : (b * 2 ^ (k + 1)) = (b * 2 ^ k) * 2 := by rw [Nat.pow_succ, Nat.mul_assoc]
    have hlt : a / 2 < 2 ^ k := by
      rw [Nat.pow_succ] at h
      generalize 2 ^ k = m at h ⊢
      omega
    have i := ih (a / 2) b hlt
    rw [hm]
    generalize b * 2 ^ k = B at i ⊢
    have e : (a &&& (B * 2)) / 2 = a / 2 &&& (B * 2) / 2 := Nat.and_div_two
    have e2 : (B * 2) / 2 = B := by omega
    have o := @Nat.and_mod_two_eq_one a (B * 2)
    rw [e2, i] at e
    omega

theorem natCast_mul_pow (m k : Nat) : (m : Int) * 2 ^ k = ((m * 2 ^ k : Nat) : Int) := by
  rw [two_pow_cast]
  first
    | exact (Int.natCast_mul _ _).symm
    | simp

/-- low bits a, high part b: (b << k) | a -/
theorem bitOr_join {a b : Int} {k : Nat} (h0 : 0 ≤ a) (h1 : a < 2 ^ k) (hb : 0 ≤ b) : Builtin.bitOr a (b * 2 ^ k) = a + b * 2 ^ k := by
  obtain ⟨n, rfl⟩ := Int.eq_ofNat_of_zero_le h0
  obtain ⟨m, rfl⟩ := Int.eq_ofNat_of_zero_le hb
  have hn : n < 2 ^ k := by
    rw [two_pow_cast] at h1
    omega
  have e : Builtin.bitAnd (n : Int) ((m * 2 ^ k : Nat) : Int) = 0 := by
    rw [bitAnd_pp (by omega) (by omega), Int.toNat_natCast, Int.toNat_natCast, nat_and_mul_pow k n m hn] <;> rfl
  rw [natCast_mul_pow, bitOr_and, e]
  omega

/-- x & ((1 << k) - 1) -/
theorem bitAnd_mask {x : Int} (k : Nat) (hx : 0 ≤ x) : Builtin.bitAnd x (2 ^ k - 1) = x % 2 ^ k := by
  obtain ⟨n, rfl⟩ := Int.eq_ofNat_of_zero_le hx
  have hp : 0 < 2 ^ k := Nat.two_pow_pos k
  rw [two_pow_cast]
  have e : ((2 ^ k : Nat) : Int) - 1 = ((2 ^ k - 1 : Nat) : Int) := by
    generalize (2 : Nat) ^ k = m at hp
    omega
  rw [e, bitAnd_pp (by omega) (by omega), Int.toNat_natCast, Int.toNat_natCast, Nat.and_two_pow_sub_one_eq_mod]
  first
    | rfl
    | exact Int.natCast_emod _ _
    | simp


theorem nat_xor_add_and (m : Nat) : ∀ n : Nat, (m ^^^ n) + 2 * (m &&& n) = m + n := by
  induction m using Nat.strongRecOn with
  | _ m ih =>
    intro n
    by_cases h0 : m = 0
    · subst h0
      simp
    · have ih' := ih (m / 2) (by omega) (n / 2)
      rw [← Nat.xor_div_two, ← Nat.and_div_two] at ih'
      have o1 := @Nat.xor_mod_two_eq_one m n
      have a1 := @Nat.and_mod_two_eq_one m n
      omega

theorem bitXor_pp {x y : Int} (hx : 0 ≤ x) (hy : 0 ≤ y) : Builtin.bitXor x y = ((x.toNat ^^^ y.toNat : Nat) : Int) := by
  have e := nat_xor_add_and x.toNat y.toNat
  rw [bitXor_and, bitAnd_pp hx hy]
  omega

end Bits
end 

section 
namespace TL
open PySem PySem.Builtin PySem.Builtin.Str PySem.StrLaws

abbrev tl (x : Str) : List Nat := x.cps.toList

/-! ### the list functions -/
/-- S stands at the head of l -/
def pre (S l : List Nat) : Bool := l.take S.length == S
/-- l cut at each S from the left; k signs are still to be passed over -/
def spl (S : List Nat) : Nat → List Nat → List Nat → List (List Nat)
  | _, acc, [] => [acc]
  | 0, acc, c :: r => if pre S (c :: r) = true then acc :: spl S (S.length - 1) [] r else spl S 0 (acc ++ [c]) r
  | k + 1, acc, _ :: r => spl S k acc r
/-- what stands before the first S, and behind it -/
def par (S : List Nat) : List Nat → List Nat → Option (List Nat × List Nat)
  | _, [] => none
  | acc, c :: r => if pre S (c :: r) = true then some (acc, (c :: r).drop S.length) else par S (acc ++ [c]) r




/-! ### the model's split and partition are these -/




/-! ### computing spl and par -/


/-! ### digits -/

/-! ### words: x.split() -/
end TL
end 

namespace L2
open PySem PySem.Spec PyProof.Rows




section
variable {X : Cx} {pins : List (Addr × Obj)} {σ : St} {H : Hp} {s : Shared} {Q : VK}
end

section
variable {X : Cx}





/-! ### of a text alone -/

/-! ### of a text and a text -/

end

section
variable {X : Cx} {o e : Expr} {to te : TE}

end
end L2

namespace L2
open PySem PySem.Spec PyProof.Rows

section
variable {X : Cx}
end

/-! ### slices of a text -/
theorem IsPart.raw {v : Value} {o : Option Int} (p : IsPart v o) : ∃ l : Option (Int × Tok), v = partValue l ∧ l.map (·.1) = o := by
  cases p with
  | none => exact ⟨none, rfl, rfl⟩
  | int i t => exact ⟨some (i, t), rfl, rfl⟩


end L2

namespace Att
open PySem PySem.W PySem.Calls PyProof.Rows

/-! ### the script -/



/-! ### the attachment: holds_open's last premise (the goal 'hc' behind k_head) from a wpAny of the law's body -/



/-! ### rules over ANY heap (no ledger) from facts about the written part K: the library's own take a ledger (News) for what they write -/
section
variable {prog : Program} {w : World} {A : Around} {E : Value → Shared → Prop} {s : Shared} {K : Frag}





/-! the whole heap as the ledger: makes every rule that writes through a ledger a rule over any heap -/
def ledger (h : Heap) (L d : Addr) : List (Addr × Obj) := (List.range h.objs.size).filterMap fun a => if a = L ∨ a = d then none else (h.get? a).map fun o => (a, o)

end
end Att

namespace L2
open PySem PySem.Spec PyProof.Rows



end L2

namespace L2
open PySem PySem.Spec PyProof.Rows


end L2

/- THE LAST THEOREM (shape; LID, My.* are yours):
   My.Adr: a structure of the addresses that your layer names (classes, functions); My.Txt K t: a structure (Prop) of the equations over K;
   My.txt_mk : {K} {implicit addresses ..} (e1 : nsIn K mainGlobals "law" = some (some (.ref f))) (e2 : K.lookup f = some ⟨oc, od, .func (fnOf "law" "law" params body scope dV kV doc pm an cdv ct), sl⟩) (e3 : codeIn K cdv "law" = true) .. : ∃ t, My.Txt K t

set_option maxRecDepth 100000 in
set_option maxHeartbeats 0 in
(the tactic k_is has no namespace: write k_is) -/

section
set_option Elab.async false
set_option linter.all false
set_option maxRecDepth 100000
set_option maxHeartbeats 2000000
namespace L2
open PySem PySem.Spec PyProof.Rows
open PySem.W (WData Codec OpenSpec Well WellAll ReadsW ReadsAllW)
/-! ### an answer as data -/
mutual
/-- x stands for the datum d, lists and tuples all the way -/
inductive Dw (K : PySem.W.Frag) (H : Hp) : V → WData → Prop
  | non : Dw K H .non .none
  | bl (b : Bool) : Dw K H (.bl b) (.bool b)
  | int (i : Int) : Dw K H (.int i) (.int i)
  | str (x : Str) : Dw K H (.str x) (.str x)
  | byt (b : Array UInt8) : Dw K H (.byt b) (.bytes b.toList)
  | lst {a : Addr} {xs : List V} {ds : List WData} : SqL K H a xs → DwAll K H xs ds → Dw K H (.ref a) (.list ds)
  | tup {a : Addr} {xs : List V} {ds : List WData} : SqT K H a xs → DwAll K H xs ds → Dw K H (.ref a) (.tuple ds)
inductive DwAll (K : PySem.W.Frag) (H : Hp) : List V → List WData → Prop
  | nil : DwAll K H [] []
  | cons {v : V} {vs : List V} {d : WData} {ds : List WData} : Dw K H v d → DwAll K H vs ds → DwAll K H (v :: vs) (d :: ds)
end
theorem dw_ints {K : PySem.W.Frag} {H : Hp} : ∀ ns : List Int, DwAll K H (ns.map V.int) (ns.map WData.int)
  | [] => .nil
  | n :: r => .cons (.int n) (dw_ints r)
theorem ints_dw {K : PySem.W.Frag} {H : Hp} : ∀ (ns : List Int) (xs : List V), DwAll K H xs (ns.map WData.int) → xs = ns.map V.int
  | [], xs, h => by
    cases h
    rfl
  | n :: r, xs, h => by
    cases h with
    | cons h1 h2 =>
      cases h1
      rw [ints_dw r _ h2] <;> rfl
section
variable {P : Program} {w : World} {K : PySem.W.Frag} {H : Hp} {h : Heap} {R : PySem.W.WRecords} {cl : Str → Option Addr}
theorem sqL_at {a : Addr} {xs : List V} (hok : HOk P w H h) (KX : K.In h) (q : SqL K H a xs) : ∃ (its : List Value) (o : Obj) (n : Nat), Vals xs its ∧ h.get? a = some o ∧ o.cls = .type "list" ∧ o.data = .seq its.toArray n := by
  rcases q with q | ⟨o, its, n, e, hc, _, hd, _, hv⟩
  · obtain ⟨_, its, n, hv, e⟩ := (show ObjOk P w H h a (.lst xs) from q.ok hok)
    exact ⟨its, _, n, hv, e, rfl, rfl⟩
  · exact ⟨its.toList, o, n, hv, KX _ _ e, hc, by simp [hd]⟩
theorem sqT_at {a : Addr} {xs : List V} (hok : HOk P w H h) (KX : K.In h) (q : SqT K H a xs) : ∃ (its : List Value) (o : Obj) (n : Nat), Vals xs its ∧ h.get? a = some o ∧ o.cls = .type "tuple" ∧ o.data = .seq its.toArray n := by
  rcases q with q | ⟨o, its, n, e, hc, hd, _, hv⟩
  · obtain ⟨_, its, hv, o, e, hc, n, hd⟩ := (show ObjOk P w H h a (.tup xs) from q.ok hok)
    exact ⟨its, o, n, hv, e, hc, hd⟩
  · exact ⟨its.toList, o, n, hv, KX _ _ e, hc, by simp [hd]⟩
mutual
theorem Dw.reads (hok : HOk P w H h) (KX : K.In h) : ∀ (d : WData) (v : V) (u : Value), Dw K H v d → RelV v u → ∃ as, ReadsW R cl h u d as
  | .none, _, _, x, r => by
    cases x
    cases r
    exact ⟨_, ReadsW.none⟩
  | .bool b, _, _, x, r => by
    cases x
    cases r
    exact ⟨_, ReadsW.bool b⟩
  | .int i, _, _, x, r => by
    cases x
    obtain ⟨t, rfl⟩ := r
    exact ⟨_, ReadsW.int i t⟩
  | .str s, _, _, x, r => by
    cases x
    obtain ⟨t, rfl⟩ := r
    exact ⟨_, ReadsW.str s t⟩
  | .bytes b, _, _, x, r => by
    cases x
    obtain ⟨t, rfl⟩ := r
    exact ⟨_, ReadsW.bytes _ t⟩
  | .list ds, _, _, x, r => by
    cases x with
    | lst hs ha =>
      cases r
      obtain ⟨its, o, n, rv, ho, hc, hd⟩ := sqL_at hok KX hs
      obtain ⟨as, hr⟩ := Dw.readsAll hok KX ds _ its ha rv
      exact ⟨_, ReadsW.list ho hc hd hr⟩
  | .tuple ds, _, _, x, r => by
    cases x with
    | tup hs ha =>
      cases r
      obtain ⟨its, o, n, rv, ho, hc, hd⟩ := sqT_at hok KX hs
      obtain ⟨as, hr⟩ := Dw.readsAll hok KX ds _ its ha rv
      exact ⟨_, ReadsW.tuple ho hc hd hr⟩
  | .float _, _, _, x, _ => by cases x
  | .dict _, _, _, x, _ => by cases x
  | .bytearray _, _, _, x, _ => by cases x
  | .set _, _, _, x, _ => by cases x
  | .frozenset _, _, _, x, _ => by cases x
  | .obj _ _, _, _, x, _ => by cases x
theorem Dw.readsAll (hok : HOk P w H h) (KX : K.In h) : ∀ (ds : List WData) (vs : List V) (us : List Value), DwAll K H vs ds → Vals vs us → ∃ as, ReadsAllW R cl h us ds as
  | [], _, _, x, r => by
    cases x
    cases r
    exact ⟨_, ReadsAllW.nil⟩
  | d :: ds, _, _, x, r => by
    cases x with
    | cons h1 h2 =>
      cases r with
      | cons r1 r2 =>
        obtain ⟨as, q1⟩ := Dw.reads hok KX d _ _ h1 r1
        obtain ⟨bs, q2⟩ := Dw.readsAll hok KX ds _ _ h2 r2
        exact ⟨_, ReadsAllW.cons q1 q2⟩
end
end
/-! ### the arguments -/
mutual
/-- data that a codec tells -/
def plW : WData → Bool
  | .none => true
  | .bool _ => true
  | .int _ => true
  | .str _ => true
  | .bytes _ => true
  | .list xs => plWs xs
  | .tuple xs => plWs xs
  | _ => false
def plWs : List WData → Bool
  | [] => true
  | x :: r => plW x && plWs r
end
theorem plWs_map {α : Type} {f : α → WData} (h : ∀ a, plW (f a) = true) : ∀ l : List α, plWs (l.map f) = true
  | [] => rfl
  | x :: r => by
    show (plW (f x) && plWs (r.map f)) = true
    rw [h x, plWs_map h r] <;> rfl
theorem pl_enc : ∀ (c : Codec) (a : c.denote), plW (c.enc a) = true
  | .unit, _ => rfl
  | .bool, _ => rfl
  | .int _ _, _ => rfl
  | .nat _ _, _ => rfl
  | .u8, _ => rfl
  | .bytes _ _, _ => rfl
  | .text _ _ _ _, _ => rfl
  | .list _ _ c, a => plWs_map (fun x => pl_enc c x) a
  | .pair c d, a => by
    show (plW (c.enc a.1) && (plW (d.enc a.2) && true)) = true
    rw [pl_enc c a.1, pl_enc d a.2] <;> rfl
  | .triple c d e, a => by
    show (plW (c.enc a.1) && (plW (d.enc a.2.1) && (plW (e.enc a.2.2) && true))) = true
    rw [pl_enc c a.1, pl_enc d a.2.1, pl_enc e a.2.2] <;> rfl
  | .option c, none => rfl
  | .option c, some x => pl_enc c x
theorem pl_encAll : ∀ (cs : List Codec) (a : Codec.denoteAll cs), plWs (Codec.encAll cs a) = true
  | [], _ => rfl
  | c :: cs, a => by
    show (plW (c.enc a.1) && plWs (Codec.encAll cs a.2)) = true
    rw [pl_enc c a.1, pl_encAll cs a.2] <;> rfl
theorem weight_mem : ∀ {xs : List WData} {d : WData}, d ∈ xs → d.weight ≤ WData.weightAll xs
  | [], d, h => absurd h (by simp)
  | x :: r, d, h => by
    show d.weight ≤ x.weight + 1 + WData.weightAll r
    rcases List.mem_cons.mp h with e | m
    · rw [e]
      omega
    · have z := weight_mem m
      omega
def toV : Value → V
  | .none => .non
  | .bool b => .bl b
  | .int i _ => .int i
  | .str x _ => .str x
  | .bytes b _ => .byt b
  | .ref a => .ref a
  | _ => .non
/-- a value of the arguments, its objects among A -/
def OkU (A : List Addr) : Value → Prop
  | .none => True
  | .bool _ => True
  | .int _ _ => True
  | .str _ _ => True
  | .bytes _ _ => True
  | .ref a => a ∈ A
  | _ => False
theorem OkU.mono {A B : List Addr} (h : ∀ a ∈ A, a ∈ B) : ∀ {u : Value}, OkU A u → OkU B u := fun {u} x => by
  cases u with
  | ref a => exact h a x
  | none => trivial
  | bool b => trivial
  | int i t => trivial
  | str s t => trivial
  | bytes b t => trivial
  | _ => exact False.elim x
theorem relV_toV {A : List Addr} {u : Value} (x : OkU A u) : RelV (toV u) u := by
  cases u with
  | ref a => rfl
  | none => rfl
  | bool b => rfl
  | int i t => exact ⟨t, rfl⟩
  | str s t => exact ⟨t, rfl⟩
  | bytes b t => exact ⟨t, rfl⟩
  | _ => exact False.elim x
theorem vals_toV {A : List Addr} : ∀ {vs : List Value}, (∀ u ∈ vs, OkU A u) → Vals (vs.map toV) vs
  | [], _ => .nil
  | u :: r, h => .cons (relV_toV (h u (List.mem_cons_self ..))) (vals_toV fun x hx => h x (List.mem_cons_of_mem _ hx))
/-- an object of the arguments -/
def ArgOb (h : Heap) (A : List Addr) (a : Addr) : Prop := ∃ vs : List Value, vs.length ≤ sizeLine ∧ (∀ u ∈ vs, OkU A u) ∧
  (h.get? a = some { cls := .type "list", data := .seq vs.toArray } ∨ h.get? a = some { cls := .type "tuple", data := .seq vs.toArray })
theorem ArgOb.mono {h : Heap} {A B : List Addr} {a : Addr} (k : ∀ a ∈ A, a ∈ B) (x : ArgOb h A a) : ArgOb h B a := by
  obtain ⟨vs, h1, h2, h3⟩ := x
  exact ⟨vs, h1, fun u hu => (h2 u hu).mono k, h3⟩
theorem wellAll_len {P : Params} {h : Heap} : ∀ {vs : List Value} {ds : List WData}, WellAll P h vs ds → vs.length = ds.length
  | _, _, .nil => rfl
  | _, _, .cons _ b => by
    show _ + 1 = _ + 1
    rw [wellAll_len b]
theorem well_list {P : Params} {h : Heap} {v : Value} {ds : List WData} (x : Well P h v (.list ds)) : ∃ (a : Addr) (vs : List Value), v = .ref a ∧ h.get? a = some { cls := .type "list", data := .seq vs.toArray } ∧ WellAll P h vs ds := by
  cases x with
  | list ho hall => exact ⟨_, _, rfl, ho, hall⟩
theorem well_tuple {P : Params} {h : Heap} {v : Value} {ds : List WData} (x : Well P h v (.tuple ds)) : ∃ (a : Addr) (vs : List Value), v = .ref a ∧ h.get? a = some { cls := .type "tuple", data := .seq vs.toArray } ∧ WellAll P h vs ds := by
  cases x with
  | tuple ho hall => exact ⟨_, _, rfl, ho, hall⟩
theorem well_cons {P : Params} {h : Heap} {us : List Value} {d : WData} {ds : List WData} (x : WellAll P h us (d :: ds)) : ∃ (v : Value) (vs : List Value), us = v :: vs ∧ Well P h v d ∧ WellAll P h vs ds := by
  cases x with
  | cons a b => exact ⟨_, _, rfl, a, b⟩
theorem line_of {n : Nat} (h : n ≤ 1048576) : n ≤ sizeLine := Nat.le_trans h (by decide)
section
variable {P : Params} {h : Heap}
mutual
theorem area_one : ∀ (d : WData) (v : Value), Well P h v d → plW d = true → d.weight ≤ 1048576 → ∃ A : List Addr, OkU A v ∧ ∀ a ∈ A, ArgOb h A a
  | .none, _, x, _, _ => by
    cases x
    exact ⟨[], trivial, fun a m => absurd m (by simp)⟩
  | .bool b, _, x, _, _ => by
    cases x
    exact ⟨[], trivial, fun a m => absurd m (by simp)⟩
  | .int i, _, x, _, _ => by
    cases x
    exact ⟨[], trivial, fun a m => absurd m (by simp)⟩
  | .str s, _, x, _, _ => by
    cases x
    exact ⟨[], trivial, fun a m => absurd m (by simp)⟩
  | .bytes b, _, x, _, _ => by
    cases x
    exact ⟨[], trivial, fun a m => absurd m (by simp)⟩
  | .list ds, _, x, p, z => by
    obtain ⟨a, vs, rfl, ho, hall⟩ := well_list x
    have z2 : WData.weightAll ds ≤ 1048576 := z
    obtain ⟨A, h1, h2⟩ := area_all ds _ hall p fun d hd => Nat.le_trans (weight_mem hd) z2
    have k : ∀ b ∈ A, b ∈ a :: A := fun b hb => List.mem_cons_of_mem _ hb
    refine ⟨a :: A, List.mem_cons_self .., fun b hb => ?_⟩
    rcases List.mem_cons.mp hb with e | m
    · rw [e]
      exact ⟨vs, line_of (by rw [wellAll_len hall]; exact Nat.le_trans (PySem.W.length_le_weightAllW ds) z2), fun u hu => (h1 u hu).mono k, .inl ho⟩
    · exact (h2 b m).mono k
  | .tuple ds, _, x, p, z => by
    obtain ⟨a, vs, rfl, ho, hall⟩ := well_tuple x
    have z2 : WData.weightAll ds ≤ 1048576 := z
    obtain ⟨A, h1, h2⟩ := area_all ds _ hall p fun d hd => Nat.le_trans (weight_mem hd) z2
    have k : ∀ b ∈ A, b ∈ a :: A := fun b hb => List.mem_cons_of_mem _ hb
    refine ⟨a :: A, List.mem_cons_self .., fun b hb => ?_⟩
    rcases List.mem_cons.mp hb with e | m
    · rw [e]
      exact ⟨vs, line_of (by rw [wellAll_len hall]; exact Nat.le_trans (PySem.W.length_le_weightAllW ds) z2), fun u hu => (h1 u hu).mono k, .inr ho⟩
    · exact (h2 b m).mono k
  | .float _, _, _, p, _ => Bool.noConfusion (show false = true from p)
  | .dict _, _, _, p, _ => Bool.noConfusion (show false = true from p)
  | .bytearray _, _, _, p, _ => Bool.noConfusion (show false = true from p)
  | .set _, _, _, p, _ => Bool.noConfusion (show false = true from p)
  | .frozenset _, _, _, p, _ => Bool.noConfusion (show false = true from p)
  | .obj _ _, _, _, p, _ => Bool.noConfusion (show false = true from p)
theorem area_all : ∀ (ds : List WData) (vs : List Value), WellAll P h vs ds → plWs ds = true → (∀ d ∈ ds, d.weight ≤ 1048576) → ∃ A : List Addr, (∀ u ∈ vs, OkU A u) ∧ ∀ a ∈ A, ArgOb h A a
  | [], _, x, _, _ => by
    cases x
    exact ⟨[], fun u m => absurd m (by simp), fun a m => absurd m (by simp)⟩
  | d :: ds, _, x, p, z => by
    obtain ⟨v, vs, rfl, x1, x2⟩ := well_cons x
    have q : plW d = true ∧ plWs ds = true := Bool.and_eq_true_iff.mp p
    obtain ⟨A, a1, a2⟩ := area_one d v x1 q.1 (z d (List.mem_cons_self ..))
    obtain ⟨B, b1, b2⟩ := area_all ds vs x2 q.2 fun e he => z e (List.mem_cons_of_mem _ he)
    have kA : ∀ b ∈ A, b ∈ A ++ B := fun b hb => List.mem_append.mpr (.inl hb)
    have kB : ∀ b ∈ B, b ∈ A ++ B := fun b hb => List.mem_append.mpr (.inr hb)
    refine ⟨A ++ B, fun u hu => ?_, fun b hb => ?_⟩
    · rcases List.mem_cons.mp hu with e | m
      · rw [e]
        exact a1.mono kA
      · exact (b1 u m).mono kB
    · rcases List.mem_append.mp hb with m | m
      · exact (a2 b m).mono kA
      · exact (b2 b m).mono kB
end
end
/-- what is tracked of an argument's object -/
def hoOf (o : Obj) : Option HO := match o.data with
  | .seq vs _ => if (o.cls == Value.type "list") = true then some (.frz o (.lst (vs.toList.map toV))) else some (.frz o (.tup (vs.toList.map toV)))
  | _ => none
def argH (K : PySem.W.Frag) (h : Heap) (A : List Addr) : Hp := fun b => if b ∈ A then (if (K.lookup b).isNone = true then (h.get? b).bind hoOf else none) else none
/-- nothing is tracked but what is known to the object -/
def OnlyF (H : Hp) : Prop := ∀ b, H b = none ∨ ∃ o u, H b = some (.frz o u)
theorem hoOf_lst (vs : List Value) : hoOf { cls := .type "list", data := .seq vs.toArray } = some (.frz { cls := .type "list", data := .seq vs.toArray } (.lst (vs.map toV))) := by
  show (if (Value.type "list" == Value.type "list") = true then some (HO.frz { cls := .type "list", data := .seq vs.toArray } (.lst (vs.toArray.toList.map toV))) else some (HO.frz { cls := .type "list", data := .seq vs.toArray } (.tup (vs.toArray.toList.map toV)))) = _
  rw [if_pos (beq_self_eq_true _)]
theorem hoOf_tup (vs : List Value) : hoOf { cls := .type "tuple", data := .seq vs.toArray } = some (.frz { cls := .type "tuple", data := .seq vs.toArray } (.tup (vs.map toV))) := by
  show (if (Value.type "tuple" == Value.type "list") = true then some (HO.frz { cls := .type "tuple", data := .seq vs.toArray } (.lst (vs.toArray.toList.map toV))) else some (HO.frz { cls := .type "tuple", data := .seq vs.toArray } (.tup (vs.toArray.toList.map toV)))) = _
  rw [if_neg (by decide)]
section
variable {P : Program} {w : World} {K : PySem.W.Frag} {h : Heap} {A : List Addr}
theorem argH_at {b : Addr} {o : Obj} (hb : b ∈ A) (hk : K.lookup b = none) (e : h.get? b = some o) : argH K h A b = hoOf o := by
  unfold argH
  rw [if_pos hb, hk, if_pos (show (none : Option Obj).isNone = true from rfl), e] <;> rfl
theorem of_argH {b : Addr} {u : HO} (q : argH K h A b = some u) : b ∈ A ∧ K.lookup b = none := by
  unfold argH at q
  by_cases hb : b ∈ A
  · rw [if_pos hb] at q
    cases hk : K.lookup b with
    | none => exact ⟨hb, rfl⟩
    | some o =>
      rw [hk, if_neg (by simp)] at q
      cases q
  · rw [if_neg hb] at q
    cases q
/-- what stands tracked -/
theorem argH_is (ar : ∀ a ∈ A, ArgOb h A a) {b : Addr} {u : HO} (q : argH K h A b = some u) : K.lookup b = none ∧ ∃ vs : List Value, vs.length ≤ sizeLine ∧ (∀ u ∈ vs, OkU A u) ∧
    ((h.get? b = some { cls := .type "list", data := .seq vs.toArray } ∧ u = .frz { cls := .type "list", data := .seq vs.toArray } (.lst (vs.map toV))) ∨
     (h.get? b = some { cls := .type "tuple", data := .seq vs.toArray } ∧ u = .frz { cls := .type "tuple", data := .seq vs.toArray } (.tup (vs.map toV)))) := by
  obtain ⟨hb, hk⟩ := of_argH q
  obtain ⟨vs, h1, h2, h3⟩ := ar b hb
  refine ⟨hk, vs, h1, h2, ?_⟩
  rcases h3 with e | e
  · rw [argH_at hb hk e, hoOf_lst] at q
    exact .inl ⟨e, (Option.some.inj q).symm⟩
  · rw [argH_at hb hk e, hoOf_tup] at q
    exact .inr ⟨e, (Option.some.inj q).symm⟩
theorem argH_only (ar : ∀ a ∈ A, ArgOb h A a) : OnlyF (argH K h A) := fun b => by
  cases q : argH K h A b with
  | none => exact .inl rfl
  | some u =>
    obtain ⟨_, vs, _, _, ⟨_, e⟩ | ⟨_, e⟩⟩ := argH_is ar q
    · exact .inr ⟨_, _, by rw [e]⟩
    · exact .inr ⟨_, _, by rw [e]⟩
theorem argH_ok (ar : ∀ a ∈ A, ArgOb h A a) : HOk P w (argH K h A) h := fun b u q => by
  obtain ⟨_, vs, h1, h2, ⟨e, rfl⟩ | ⟨e, rfl⟩⟩ := argH_is ar q
  · exact ⟨e, by rw [List.length_map]; exact h1, vs, _, vals_toV h2, e⟩
  · exact ⟨e, by rw [List.length_map]; exact h1, vs, vals_toV h2, _, e, rfl, _, rfl⟩
theorem seq_inj {c c' : Value} {vs us : List Value} (e : (some { cls := c, data := .seq vs.toArray } : Option Obj) = some { cls := c', data := .seq us.toArray }) : c = c' ∧ vs = us := by
  have e1 := Option.some.inj e
  have e2 : c = c' := congrArg Obj.cls e1
  have e3 : Data.seq vs.toArray = Data.seq us.toArray := congrArg Obj.data e1
  injection e3 with e4
  refine ⟨e2, ?_⟩
  have e5 := congrArg Array.toList e4
  simpa using e5
/-- a list argument -/
theorem argL (KX : K.In h) (ar : ∀ a ∈ A, ArgOb h A a) {a : Addr} {vs : List Value} (ha : a ∈ A) (e : h.get? a = some { cls := .type "list", data := .seq vs.toArray }) : (∀ u ∈ vs, OkU A u) ∧ SqL K (argH K h A) a (vs.map toV) := by
  obtain ⟨us, h1, h2, h3⟩ := ar a ha
  have hu : us = vs := by
    rcases h3 with q | q
    · rw [e] at q
      exact (seq_inj q).2.symm
    · rw [e] at q
      exact absurd (Value.type.inj (seq_inj q).1) (by decide)
  subst hu
  refine ⟨h2, ?_⟩
  cases hk : K.lookup a with
  | none => exact .inl (.inr ⟨_, by rw [argH_at ha hk e, hoOf_lst]⟩)
  | some o =>
    have e2 := KX a o hk
    rw [e] at e2
    obtain rfl := Option.some.inj e2
    exact .inr ⟨_, us.toArray, _, hk, rfl, rfl, rfl, by rw [List.size_toArray]; exact h1, by simpa using vals_toV h2⟩
theorem argT (KX : K.In h) (ar : ∀ a ∈ A, ArgOb h A a) {a : Addr} {vs : List Value} (ha : a ∈ A) (e : h.get? a = some { cls := .type "tuple", data := .seq vs.toArray }) : (∀ u ∈ vs, OkU A u) ∧ SqT K (argH K h A) a (vs.map toV) := by
  obtain ⟨us, h1, h2, h3⟩ := ar a ha
  have hu : us = vs := by
    rcases h3 with q | q
    · rw [e] at q
      exact absurd (Value.type.inj (seq_inj q).1) (by decide)
    · rw [e] at q
      exact (seq_inj q).2.symm
  subst hu
  refine ⟨h2, ?_⟩
  cases hk : K.lookup a with
  | none => exact .inl (.inr ⟨_, by rw [argH_at ha hk e, hoOf_tup]⟩)
  | some o =>
    have e2 := KX a o hk
    rw [e] at e2
    obtain rfl := Option.some.inj e2
    exact .inr ⟨_, us.toArray, _, hk, rfl, rfl, by rw [List.size_toArray]; exact h1, by simpa using vals_toV h2⟩
mutual
theorem dw_one {Pm : Params} (KX : K.In h) (ar : ∀ a ∈ A, ArgOb h A a) : ∀ (d : WData) (v : Value), Well Pm h v d → plW d = true → OkU A v → Dw K (argH K h A) (toV v) d
  | .none, _, x, _, _ => by
    cases x
    exact .non
  | .bool b, _, x, _, _ => by
    cases x
    exact .bl b
  | .int i, _, x, _, _ => by
    cases x
    exact .int i
  | .str s, _, x, _, _ => by
    cases x
    exact .str s
  | .bytes b, _, x, _, _ => by
    cases x
    have z := Dw.byt (K := K) (H := argH K h A) b.toArray
    exact z
  | .list ds, _, x, p, hu => by
    obtain ⟨a, vs, rfl, ho, hall⟩ := well_list x
    obtain ⟨h2, hs⟩ := argL KX ar hu ho
    exact .lst hs (dw_all KX ar ds _ hall p h2)
  | .tuple ds, _, x, p, hu => by
    obtain ⟨a, vs, rfl, ho, hall⟩ := well_tuple x
    obtain ⟨h2, hs⟩ := argT KX ar hu ho
    exact .tup hs (dw_all KX ar ds _ hall p h2)
  | .float _, _, _, p, _ => Bool.noConfusion (show false = true from p)
  | .dict _, _, _, p, _ => Bool.noConfusion (show false = true from p)
  | .bytearray _, _, _, p, _ => Bool.noConfusion (show false = true from p)
  | .set _, _, _, p, _ => Bool.noConfusion (show false = true from p)
  | .frozenset _, _, _, p, _ => Bool.noConfusion (show false = true from p)
  | .obj _ _, _, _, p, _ => Bool.noConfusion (show false = true from p)
theorem dw_all {Pm : Params} (KX : K.In h) (ar : ∀ a ∈ A, ArgOb h A a) : ∀ (ds : List WData) (vs : List Value), WellAll Pm h vs ds → plWs ds = true → (∀ u ∈ vs, OkU A u) → DwAll K (argH K h A) (vs.map toV) ds
  | [], _, x, _, _ => by
    cases x
    exact .nil
  | d :: ds, _, x, p, hu => by
    obtain ⟨v, vs, rfl, x1, x2⟩ := well_cons x
    have q : plW d = true ∧ plWs ds = true := Bool.and_eq_true_iff.mp p
    exact .cons (dw_one KX ar d v x1 q.1 (hu _ (List.mem_cons_self ..))) (dw_all KX ar ds vs x2 q.2 fun u m => hu u (List.mem_cons_of_mem _ m))
end
end
/-! ### the call -/
theorem spec_call {P : Program} {w : World} {K : PySem.W.Frag} {mg mb : Str → Option Value} {CX : CXT} {k : Nat} {fa : Addr} {fd : FuncData} {ps : List Str} {sp : Sp} {s₁ : Shared} {vals : List Value} {ds : List WData} {R : PySem.W.WRecords} {cl : Str → Option Addr} {d0 : WData}
    (KX : K.In s₁.heap) (hns : s₁.heap.Ns mainGlobals mg) (hb : s₁.heap.Ns builtinsNs mb) (hbb : ∀ x : Str, x ≠ "__name__" → mb x = bootBuiltins x) (hlim : s₁.heap.NoLimit) (hg : s₁.gens = #[])
    (hwl : WellAll w.params s₁.heap vals ds) (hpl : plWs ds = true) (hwt : ∀ d ∈ ds, d.weight ≤ 1048576) (hr : Room k callerA)
    (F : ∀ base : Heap, K.In base → base.Ns mainGlobals mg → FnOk P w K mg base CX k fa fd ps sp) (hbind : ∀ (s : Shared) (us : List Value), us.length = ps.length → BindsTo s fd ⟨us, []⟩ (ps.zip us)) (hlen : ds.length = ps.length)
    (hsp : ∀ (H : Hp) (xs : List V), OnlyF H → DwAll K H xs ds → sp xs H (fun v H' => Dw K H' v d0) fun _ _ _ => False)
    (hCX : ∀ H e s', CX [] H s₁ (fun _ _ _ => False) e s' → False) :
    codeAny (model P w) callerA (.call (.ref fa) ⟨vals, []⟩) (fun r s' => ∃ u as, r = .ok (.ret u) ∧ ReadsW R cl s'.heap u d0 as ∧ OldK s₁.heap s'.heap ∧ s'.os = s₁.os ∧ AllBare s'.gens) s₁ := by
  obtain ⟨A, ho, ar⟩ := area_all ds vals hwl hpl hwt
  have hO : OnlyF (argH K s₁.heap A) := argH_only ar
  have hok : HOk P w (argH K s₁.heap A) s₁.heap := argH_ok ar
  have hS := dw_all KX ar ds vals hwl hpl ho
  have hV := vals_toV ho
  have hK : ∀ b u, argH K s₁.heap A b = some u → K.lookup b = none := fun b u q => (argH_is ar q).1
  have noA : ∀ {b : Addr} {o : Obj} {es : Array DictEntry} {ep : Nat}, s₁.heap.get? b = some o → o.data = .dict es ep → argH K s₁.heap A b = none := fun {b o es ep} e d => by
    cases q : argH K s₁.heap A b with
    | none => rfl
    | some u =>
      obtain ⟨_, vs, _, _, ⟨e2, _⟩ | ⟨e2, _⟩⟩ := argH_is ar q
      · rw [e2] at e
        cases e
        have d' : Data.seq vs.toArray _ = Data.dict es ep := d
        cases d'
      · rw [e2] at e
        cases e
        have d' : Data.seq vs.toArray _ = Data.dict es ep := d
        cases d'
  generalize argH K s₁.heap A = H at hO hok hS hK noA
  have base_of : ∀ {b : Addr} {o : Obj}, s₁.heap.get? b = some o → H b = none → (hidT s₁.heap H).get? b = some o := fun e n => hidT_get e n
  have nsK : ∀ {b : Addr} {m : Str → Option Value}, s₁.heap.Ns b m → (hidT s₁.heap H).Ns b m := fun {b m} ⟨o, es, ep, e, d, r⟩ => ⟨o, es, ep, base_of e (noA e d), d, r⟩
  have nK : ∀ b o, K.lookup b = some o → H b = none := fun b o e => by
    cases q : H b with
    | none => rfl
    | some u =>
      rw [hK b u q] at e
      cases e
  have hKb : K.In (hidT s₁.heap H) := fun b o e => base_of (KX b o e) (nK b o e)
  have hM : Mod K mg (hidT s₁.heap H) := ⟨hKb, nsK hns, ⟨mb, nsK hb, hbb⟩, let ⟨mc, h1, h2⟩ := hlim; ⟨mc, nsK h1, h2⟩⟩
  have e0 : Env0 P w K mg (hidT s₁.heap H) callerA [] s₁ H := ⟨rfl, hM, fun b o e => of_hidT e, Nat.le_of_eq (hidT_size _ _), trivial, fun b hb => absurd (show b ∈ ([] : List Addr) from hb) (by simp), hok, .of_eq hg⟩
  have hl : vals.length = ps.length := by rw [wellAll_len hwl]; exact hlen
  refine codeAny_mono ((F _ hKb (nsK hns)).run callerA [] s₁ H ⟨vals, []⟩ vals (vals.map toV) _ _ hr e0 (hbind s₁ vals hl) hV (hsp H _ hO hS)) fun r s' x => ?_
  cases r with
  | error e => exact (hCX H e s' x).elim
  | ok fl =>
    cases fl with
    | next => exact False.elim x
    | brk => exact False.elim x
    | cont => exact False.elim x
    | ret u =>
      obtain ⟨v, H', os, bare, un, hok', r', q⟩ := x
      have kept : ∀ b o, s₁.heap.get? b = some o → s'.heap.get? b = some o := fun b o e => by
        cases q2 : H b with
        | none => exact un.keep b o e q2 (by intro z; exact absurd (show b ∈ ([] : List Addr) from z) (by simp)) (by simp)
        | some u2 =>
          rcases hO b with z | ⟨ob, u3, z⟩
          · rw [q2] at z
            cases z
          · have z2 := un.frzs b ob _ z
            obtain ⟨e1, _⟩ := hok b _ z
            obtain ⟨e2, _⟩ := hok' b _ z2
            rw [e] at e1
            cases e1
            exact e2
      have KX' : K.In s'.heap := fun b o e => kept b o (KX b o e)
      obtain ⟨as, hrd⟩ := Dw.reads (R := R) (cl := cl) hok' KX' d0 v u q r'
      exact ⟨u, as, rfl, hrd, OldK.of_keep kept, os, bare⟩
/-! ### the row -/
theorem layable_weight {ds : List WData} (h : WData.layableAll ds = true) : ∀ d ∈ ds, d.weight ≤ 1048576 := fun d hd =>
  (PySem.W.layableW_iff.mp (List.all_eq_true.mp h d hd)).2.2
theorem encAll_len : ∀ (cs : List Codec) (a : Codec.denoteAll cs), (Codec.encAll cs a).length = cs.length
  | [], _ => rfl
  | c :: cs, a => by
    show (Codec.encAll cs a.2).length + 1 = cs.length + 1
    rw [encAll_len cs a.2]
/-- the goal that k_headS leaves (case hc), from the promise of the row's def: whatever the arguments that the codecs let and the row asks for, the def gives what stands for enc (f ..) -/
theorem walk_spec {r : OpenSpec} {k : Nat} {q : Program} {loose : List Str} {XP : (Str → Option Value) → Heap → Prop} {YP : World → Heap → Prop} {d : DefRec} {K : Params → PySem.W.Frag} {CX : World → CXT} {ps : List Str} {sp : World → Sp}
    (hwell : r.wellSaid = true) (hdf : d.params.defaults = []) (hlen : r.args.length = ps.length) (hr : Room k callerA)
    (hY : ∀ (w : World) (h : Heap), YP w h → (K w.params).In h)
    (F : ∀ (w : World) (mg : Str → Option Value) (fa : Addr) (h : Heap), YP w h → (K w.params).In h → h.Ns mainGlobals mg → mg d.name = some (.ref fa) →
      ∃ fd : FuncData, (∀ (s : Shared) (us : List Value), us.length = ps.length → BindsTo s fd ⟨us, []⟩ (ps.zip us)) ∧
        ∀ base : Heap, (K w.params).In base → base.Ns mainGlobals mg → FnOk r.prog w (K w.params) mg base (CX w) k fa fd ps (sp w))
    (hsp : ∀ (w : World) (H : Hp) (xs : List V) (a : Codec.denoteAll r.args), OnlyF H → Codec.withinAll r.args a = true → Codec.app r.args r.asked a = true → DwAll (K w.params) H xs (Codec.encAll r.args a) →
      sp w xs H (fun v H' => Dw (K w.params) H' v (r.ret.enc (Codec.app r.args r.f a))) fun _ _ _ => False)
    (hCX : ∀ (w : World) (H : Hp) (s : Shared) (e : Value) (s' : Shared), CX w [] H s (fun _ _ _ => False) e s' → False) :
    PySem.W.WalkOS q loose XP YP r d [] (fun f vs => PySem.call f vs) := by
  intro w s_0 s₁ mg mb G Y fa o pm cd doc dV kV ho hd hcd hD hmg hg args vals as hpre hlay hrd hwl hlo
  obtain ⟨a, e1, e2⟩ := PySem.W.os_pre_some hpre
  obtain ⟨e3, hwi⟩ := Codec.encAll_of_decAll r.args args a e1
  subst e3
  have KX := hY w _ Y
  obtain ⟨fd, hb, hF⟩ := F w mg fa _ Y KX G.T.g hmg
  refine PySem.W.enter_call (codeAny_mono (spec_call (R := []) (cl := classAt s_0.heap) (d0 := r.ret.enc (Codec.app r.args r.f a)) KX G.T.g G.T.b G.T.builtins G.T.nolimit hg hwl (pl_encAll _ _) (layable_weight hlay) hr hF hb (by rw [encAll_len]; exact hlen)
    (fun H xs hO hS => hsp w H xs a hO hwi e2 hS) fun H e s' => hCX w H s₁ e s') fun r' s' hq => ?_)
  obtain ⟨u, as', rfl, h1, h2, h3, h4⟩ := hq
  exact ⟨.inl ⟨u, _, as', rfl, fun _ => rfl, h1, (OpenSpec.post_iff hwell hwi _ _).mpr rfl, fun z => Bool.noConfusion (show false = true from z)⟩, h2, h3, h4⟩
/-- the same where the promise hangs on the written part alone -/
theorem walk_specK {r : OpenSpec} {k : Nat} {q : Program} {loose : List Str} {XP : (Str → Option Value) → Heap → Prop} {YP : World → Heap → Prop} {d : DefRec} {K : Params → PySem.W.Frag} {CX : CXT} {ps : List Str} {sp : PySem.W.Frag → Sp}
    (hwell : r.wellSaid = true) (hdf : d.params.defaults = []) (hlen : r.args.length = ps.length) (hr : Room k callerA)
    (hY : ∀ (w : World) (h : Heap), YP w h → (K w.params).In h)
    (F : ∀ (w : World) (mg : Str → Option Value) (fa : Addr) (h : Heap), YP w h → (K w.params).In h → h.Ns mainGlobals mg → mg d.name = some (.ref fa) →
      ∃ fd : FuncData, (∀ (s : Shared) (us : List Value), us.length = ps.length → BindsTo s fd ⟨us, []⟩ (ps.zip us)) ∧
        ∀ base : Heap, (K w.params).In base → base.Ns mainGlobals mg → FnOk r.prog w (K w.params) mg base CX k fa fd ps (sp (K w.params)))
    (hsp : ∀ (K : PySem.W.Frag) (H : Hp) (xs : List V) (a : Codec.denoteAll r.args), OnlyF H → Codec.withinAll r.args a = true → Codec.app r.args r.asked a = true → DwAll K H xs (Codec.encAll r.args a) →
      sp K xs H (fun v H' => Dw K H' v (r.ret.enc (Codec.app r.args r.f a))) fun _ _ _ => False)
    (hCX : ∀ (H : Hp) (s : Shared) (e : Value) (s' : Shared), CX [] H s (fun _ _ _ => False) e s' → False) :
    PySem.W.WalkOS q loose XP YP r d [] (fun f vs => PySem.call f vs) :=
  walk_spec (K := K) (CX := fun _ => CX) (sp := fun w => sp (K w.params)) hwell hdf hlen hr hY F (fun w H xs a h1 h2 h3 h4 => hsp (K w.params) H xs a h1 h2 h3 h4) fun _ H s e s' => hCX H s e s'
end L2
-- rests on (row put in by the clerk, for the bench that shows a file only what it spells): KE.SpHead KE.OsShapes
end
/-! SHORT WORDS over the layer: a def of the text, its body, what a loop and a test want. -/
namespace L2
open PySem PySem.Spec PyProof.Rows

/-! ### the text by places -/
/-- the j-th statement of a class's body -/
def inClass (s : Stmt) (j : Nat) : Stmt := match s with
  | .ClassDef _ _ _ body _ _ _ _ _ _ _ => body.getD j (.Pass ⟨0, 0, 0, 0⟩)
  | _ => .Pass ⟨0, 0, 0, 0⟩
def defArgs (s : Stmt) : Arguments := match s with
  | .FunctionDef _ a _ _ _ _ _ _ _ _ => a
  | _ => { posonlyargs := [], args := [], vararg := none, kwonlyargs := [], kw_defaults := [], kwarg := none, defaults := [] }
def defBody (s : Stmt) : List Stmt := match s with
  | .FunctionDef _ _ b _ _ _ _ _ _ _ => b
  | _ => []
def defScope (s : Stmt) : Scope := match s with
  | .FunctionDef _ _ _ _ _ _ sc _ _ _ => sc
  | _ => { kind := .function, names := [], isGenerator := false, isCoroutine := false }

/-! ### no exception leaves a def -/
abbrev CX0 : CXT := fun _ _ _ _ _ _ => False
abbrev E0 : XK := fun _ _ _ => False
theorem pass0 {X : Cx} : Passes CX0 X E0 := fun _ _ _ _ _ _ _ h => h.elim

/-! ### a def (or method) of the text as it stands behind the top -/
structure Fun (K : PySem.W.Frag) (x qual : Str) (st : Stmt) (f : Addr) (fd : FuncData) : Prop where
  ex : ∃ (oc : Value) (od : Option Addr) (kV doc pm : Value) (an : Option Addr) (cdv ct : Value) (osl : Array (Option Value)),
    fd = PySem.W.fnOf x qual (defArgs st) (defBody st) (defScope st) .none kV doc pm an cdv ct ∧ K.lookup f = some ⟨oc, od, .func fd, osl⟩ ∧ PySem.W.codeIn K cdv qual = true
  kp : PySem.W.keepIn K (.ref f) = true
section
variable {P : Program} {w : World} {K : PySem.W.Frag} {mg : Str → Option Value} {base : Heap}
/-- THE RULE for a def: its body as a term of rules, and the reading of that term -/
theorem Fun.ok {x qual : Str} {st : Stmt} {f : Addr} {fd : FuncData} {N ps : List Str} {k : Nat} {sp : Sp} (F : Fun K x qual st f fd) (S : FnScope N ps (defScope st)) (len : ∀ vs H Q E, sp vs H Q E → vs.length = ps.length)
    (hbody : ∀ (cdv : Value) (A : Around) (outer : List Env) (s : Shared) (H : Hp) (vs : List V) (Q : VK) (E : XK), Room k (A.deeper (envOfC qual (defScope st) s.heap.objs.size f cdv)) → sp vs H Q E →
      ∃ t, PSs (cxOf CX0 P w K mg base N qual (defScope st) f cdv A outer s H E).nox (defBody st) t ∧ t { nx := fun _ H' => Q .non H', rt := Q } (start N vs) H) : FnOk P w K mg base CX0 (k + 1) f fd ps sp := by
  obtain ⟨oc, od, kV, doc, pm, an, cdv, ct, osl, rfl, lk, hcd⟩ := F.ex
  refine fn_of lk hcd S len fun A outer s H vs Q E hr hsp => ?_
  obtain ⟨t, h, q⟩ := hbody cdv A outer s H vs Q E hr hsp
  exact ⟨t, h.nox, q⟩
/-- how its arguments bind (no defaults): h is «fun _ _ _ _ _ _ us hl => match us, hl with | [_, _], _ => rfl», one _ a parameter -/
theorem Fun.binds {x qual : Str} {st : Stmt} {f : Addr} {fd : FuncData} {ps : List Str} (F : Fun K x qual st f fd)
    (h : ∀ (kV doc pm : Value) (an : Option Addr) (cdv ct : Value) (us : List Value), us.length = ps.length → bindArgs (PySem.W.fnOf x qual (defArgs st) (defBody st) (defScope st) .none kV doc pm an cdv ct) ⟨us, []⟩ = pure (ps.zip us)) : Binds K fd ps [] := by
  obtain ⟨oc, od, kV, doc, pm, an, cdv, ct, osl, rfl, lk, hcd⟩ := F.ex
  exact .all (h kV doc pm an cdv ct)
theorem fun_mk {x qual : Str} {st : Stmt} {f : Addr} {oc : Value} {od an : Option Addr} {osl : Array (Option Value)} {kV doc pm cdv ct : Value} (l : K.lookup f = some ⟨oc, od, .func (PySem.W.fnOf x qual (defArgs st) (defBody st) (defScope st) .none kV doc pm an cdv ct), osl⟩)
    (c : PySem.W.codeIn K cdv qual = true) (k : PySem.W.keepIn K (.ref f) = true) : Fun K x qual st f (PySem.W.fnOf x qual (defArgs st) (defBody st) (defScope st) .none kV doc pm an cdv ct) := ⟨⟨oc, od, kV, doc, pm, an, cdv, ct, osl, rfl, l, c⟩, k⟩
end

/-! ### expressions in short: the name that stands in the i-th slot -/
section
variable {X : Cx}
theorem pv (i : Nat) {x : Str} {pos : Pos} (hN : X.N[i]? = some x := by rfl) (hv : Vis X.env.scope x := by first | exact Or.inl rfl | exact Or.inr (Or.inl rfl) | exact Or.inr (Or.inr rfl)) (hd : (x == ("__debug__" : Str)) = false := by decide)
    (hcd : (x == ("__classdict__" : Str)) = false := by decide) : PE X (.Name x pos) (tVar i) := pe_var hN hv hd hcd
end

/-! ### tests -/
theorem iteF {A B : Prop} (h : B) : if false = true then A else B := by
  rw [if_neg Bool.false_ne_true]
  exact h
theorem iteT {A B : Prop} (h : A) : if true = true then A else B := by
  rw [if_pos rfl]
  exact h

/-! ### heaps -/
/-- all that was tracked is as it was -/
def Same (H H' : Hp) : Prop := ∀ b o, H b = some o → H' b = some o
theorem Same.refl (H : Hp) : Same H H := fun _ _ h => h
theorem Same.trans {H H1 H2 : Hp} (a : Same H H1) (b : Same H1 H2) : Same H H2 := fun c o h => b c o (a c o h)
theorem Same.free {H H' : Hp} (e : Same H H') {l : Addr} (h : H' l = Option.none) : H l = Option.none := by
  cases q : H l with
  | none => rfl
  | some o =>
    rw [e l o q] at h
    cases h
theorem Same.seq {K : PySem.W.Frag} {H H' : Hp} {a : Addr} {xs : List V} (e : Same H H') (h : SqL K H a xs) : SqL K H' a xs := by
  rcases h with (h | ⟨o, h⟩) | h
  · exact .inl (.inl (e _ _ h))
  · exact .inl (.inr ⟨o, e _ _ h⟩)
  · exact .inr h

/-! ### a dict's pairs: keys that differ -/
section
variable {κ : Type} [DecidableEq κ]
end
/-! ### lists -/
theorem nd_ix {α : Type} {l : List α} (hN : l.Nodup) {i j : Nat} {x : α} (a : l[i]? = some x) (b : l[j]? = some x) : i = j := by
  obtain ⟨h1, e1⟩ := List.getElem?_eq_some_iff.mp a
  obtain ⟨h2, e2⟩ := List.getElem?_eq_some_iff.mp b
  exact (List.getElem_inj hN).mp (e1.trans e2.symm)
/-- a new instance and its __init__ leave all that was tracked as it was -/
theorem Same.made {H H1 : Hp} {x dx C : Addr} (nx : H x = Option.none) (nd : H dx = Option.none) (k : ∀ b o, (upd (upd H dx (.own x)) x (.ins C dx [])) b = some o → b ≠ x → H1 b = some o) : Same H H1 := fun b o e =>
  k b o (by rw [upd_ne (ne_of_none e nx), upd_ne (ne_of_none e nd)]; exact e) (ne_of_none e nx)
end L2
set_option Elab.async false
set_option linter.all false
set_option maxRecDepth 100000
set_option maxHeartbeats 2000000
/-! Words of this proof over the layer: what a def, a method, a class is worth to a caller. -/
namespace NB
open PySem PySem.Spec PyProof.Rows L2
def top (i : Nat) : Stmt := PySem.Challenge.pw_netshares_s01_answers.main.body.getD i (.Pass ⟨0, 0, 0, 0⟩)

/-- a def of the text as a caller meets it -/
structure Has (P : Program) (w : World) (K : PySem.W.Frag) (mg : Str → Option Value) (base : Heap) (x : Str) (k : Nat) (ps : List Str) (sp : Sp) : Prop where
  ex : ∃ (f : Addr) (fd : FuncData), mg x = some (.ref f) ∧ PySem.W.keepIn K (.ref f) = true ∧ Binds K fd ps [] ∧ FnOk P w K mg base CX0 k f fd ps sp
/-- a method of the class at C -/
structure HasM (P : Program) (w : World) (K : PySem.W.Frag) (mg : Str → Option Value) (base : Heap) (C : Addr) (m : Str) (k : Nat) (ps : List Str) (sp : Sp) : Prop where
  cl : Cls K C
  ex : ∃ (f : Addr) (fd : FuncData), Meth K C m f ∧ Binds K fd ps [] ∧ FnOk P w K mg base CX0 k f fd ps sp
/-- a class that is called x -/
structure HasC (P : Program) (w : World) (K : PySem.W.Frag) (mg : Str → Option Value) (base : Heap) (x : Str) (C : Addr) (k : Nat) (ps : List Str) (sp : Sp) : Prop where
  ex : ∃ (f : Addr) (fd : FuncData), mg x = some (.ref C) ∧ Mk K C f ∧ Binds K fd ps [] ∧ FnOk P w K mg base CX0 k f fd ps sp

section
variable {X : Cx} {x m : Str} {k j : Nat} {ps : List Str} {sp : Sp} {e o : Expr} {es : List Expr} {t : TA} {ta : TE} {p pos apos : Pos} {C : Addr}
theorem pe_has (h : Has X.prog X.w X.K X.mg X.base x k ps sp) (hr : Room j X.A) (hk : k ≤ j) (hg : Gl X x) (ha : PA X (e :: es) t)
    (hdb : (x == ("__debug__" : Str)) = false := by decide) (he : starEach (e :: es) X.env = (false, eval e X.env) :: starEach es X.env := by rfl) (hpl : (backTo pos (starEach es X.env)).any (·.1) = false := by rfl) :
    PE X (.Call (.Name x p) (e :: es) [] pos) (tCall sp [] E0 t) := by
  obtain ⟨f, fd, h1, h2, h3, h4⟩ := h.ex
  exact pe_call h4 (hr.mono hk) hg h1 h2 h3 .nil pass0 ha hdb he hpl
theorem pe_hasc (h : HasC X.prog X.w X.K X.mg X.base x C k ps sp) (hr : Room j X.A) (hk : k + 1 ≤ j) (hg : Gl X x) (ha : PA X (e :: es) t)
    (hdb : (x == ("__debug__" : Str)) = false := by decide) (he : starEach (e :: es) X.env = (false, eval e X.env) :: starEach es X.env := by rfl) (hpl : (backTo pos (starEach es X.env)).any (·.1) = false := by rfl) :
    PE X (.Call (.Name x p) (e :: es) [] pos) (tMake C sp [] E0 t) := by
  obtain ⟨f, fd, h1, h2, h3, h4⟩ := h.ex
  exact pe_make h2 h4 (hr.mono hk) hg h1 h3 .nil pass0 ha hdb he hpl
theorem pe_hasc0 (h : HasC X.prog X.w X.K X.mg X.base x C k ps sp) (hr : Room j X.A) (hk : k + 1 ≤ j) (hg : Gl X x) (hdb : (x == ("__debug__" : Str)) = false := by decide) :
    PE X (.Call (.Name x p) [] [] pos) (tMake C sp [] E0 tNil) := by
  obtain ⟨f, fd, h1, h2, h3, h4⟩ := h.ex
  exact pe_make0 h2 h4 (hr.mono hk) hg h1 h3 .nil pass0 hdb
theorem pe_hasm {pl : Sem Bool} (h : HasM X.prog X.w X.K X.mg X.base C m k ps sp) (hr : Room j X.A) (hk : k ≤ j) (ho : PE X o ta) (ha : PA X (e :: es) t)
    (hst : starEach (e :: es) X.env = (false, eval e X.env) :: starEach es X.env := by rfl) (hpl : (backTo pos (starEach es X.env)).any (·.1) = false := by rfl)
    (ht : eval (.Call (.Attribute o m apos) (e :: es) [] pos) X.env = (do
      let ov ← eval o X.env
      standAt apos.atName
      let (f, first) ← holding [ov] (getMethod ov m pl)
      callWith pos f first (backTo pos (starEach (e :: es) X.env)) (backToKw pos (keywordEach [] X.env))) := by rfl) :
    PE X (.Call (.Attribute o m apos) (e :: es) [] pos) (tMeth C m sp [] E0 ta t) := by
  obtain ⟨f, fd, h1, h3, h4⟩ := h.ex
  exact pe_meth ho h.cl h1 h4 (hr.mono hk) h3 .nil pass0 ha hst hpl ht
theorem pe_hasm0 {pl : Sem Bool} (h : HasM X.prog X.w X.K X.mg X.base C m k ps sp) (hr : Room j X.A) (hk : k ≤ j) (ho : PE X o ta)
    (ht : eval (.Call (.Attribute o m apos) [] [] pos) X.env = (do
      let ov ← eval o X.env
      standAt apos.atName
      let (f, first) ← holding [ov] (getMethod ov m pl)
      callWith pos f first (backTo pos (starEach [] X.env)) (backToKw pos (keywordEach [] X.env))) := by rfl) :
    PE X (.Call (.Attribute o m apos) [] [] pos) (tMeth C m sp [] E0 ta tNil) := by
  obtain ⟨f, fd, h1, h3, h4⟩ := h.ex
  exact pe_meth0 ho h.cl h1 h4 (hr.mono hk) h3 .nil pass0 ht
/-- a whole number of the module's top -/
def IntAt (mg : Str → Option Value) (x : Str) (v : Int) : Prop := ∃ t, mg x = some (Value.int v t)
theorem pe_num {v : Int} (h : IntAt X.mg x v) (hg : Gl X x) (hd : (x == ("__debug__" : Str)) = false := by decide) : PE X (.Name x pos) (tC (.int v)) := by
  obtain ⟨t, h⟩ := h
  exact pe_glob hg h ⟨t, rfl⟩ hd
end
/-- the built-in names that the text uses are not bound at its top -/
structure Blt (mg : Str → Option Value) : Prop where
  len : mg "len" = none
  range : mg "range" = none
  max : mg "max" = none
  min : mg "min" = none
  sum : mg "sum" = none
  list : mg "list" = none

/-! ### values -/
def vN (l : List Nat) : List V := l.map fun (x : Nat) => V.int (x : Int)
theorem vN_length (l : List Nat) : (vN l).length = l.length := List.length_map ..
theorem vN_at {l : List Nat} {i x : Nat} (h : l[i]? = some x) : (vN l)[i]? = some (V.int (x : Int)) := by
  unfold vN
  rw [List.getElem?_map, h]
  rfl
theorem vN_of {l : List Nat} {i : Nat} {v : V} (h : (vN l)[i]? = some v) : ∃ x, l[i]? = some x ∧ v = V.int (x : Int) := by
  unfold vN at h
  rw [List.getElem?_map] at h
  cases e : l[i]? with
  | none => rw [e] at h; cases h
  | some x => rw [e] at h; exact ⟨x, rfl, (Option.some.inj h).symm⟩
theorem vN_append (l m : List Nat) : vN (l ++ m) = vN l ++ vN m := List.map_append
theorem vN_set (l : List Nat) (i x : Nat) : (vN l).set i (V.int (x : Int)) = vN (l.set i x) := by
  unfold vN
  rw [List.map_set]
theorem vN_ints (l : List Nat) : vN l = (l.map fun (x : Nat) => (x : Int)).map V.int := by
  unfold vN
  rw [List.map_map]
  rfl
theorem Same.upd {H : Hp} {l : Addr} {o : HO} (h : H l = none) : Same H (upd H l o) := fun b u e => by
  rw [upd_ne (ne_of_none e h)]
  exact e

/-! ### operators over naturals -/
section
variable {X : Cx}
theorem qI {Q : VK} {H : Hp} {a b : Int} (e : a = b) (q : Q (.int b) H) : Q (.int a) H := by rw [e]; exact q
theorem qB {Q : VK} {H : Hp} {a b : Bool} (e : a = b) (q : Q (.bl b) H) : Q (.bl a) H := by rw [e]; exact q
theorem OpR.imp {f : Value → Value → Sem Value} {r r' : R2} (h : OpR X f r) (i : ∀ x y H Q, r' x y H Q → r x y H Q) : OpR X f r' :=
  fun pins s σ H x y v u Q I rx ry q => h pins s σ H x y v u Q I rx ry (i x y H Q q)
/-- two naturals -/
def rN (C : Nat → Nat → Prop) (g : Nat → Nat → V) : R2 := fun x y H Q => ∃ i j : Nat, x = .int (i : Int) ∧ y = .int (j : Int) ∧ C i j ∧ Q (g i j) H
def rN0 (g : Nat → Nat → V) : R2 := fun x y H Q => ∃ i j : Nat, x = .int (i : Int) ∧ y = .int (j : Int) ∧ Q (g i j) H
theorem op_addN : OpR X (binaryOp .Add) (rN0 fun i j => .int ((i + j : Nat) : Int)) := OpR.imp op_add fun x y H Q ⟨i, j, e1, e2, q⟩ => ⟨i, j, e1, e2, qI (by omega) q⟩
theorem op_subN : OpR X (binaryOp .Sub) (rN (fun i j => j ≤ i) fun i j => .int ((i - j : Nat) : Int)) := OpR.imp op_sub fun x y H Q ⟨i, j, e1, e2, c, q⟩ => ⟨i, j, e1, e2, qI (Int.ofNat_sub c).symm q⟩
theorem op_xorN : OpR X (binaryOp .BitXor) (rN0 fun i j => .int ((i ^^^ j : Nat) : Int)) := OpR.imp op_xor fun x y H Q ⟨i, j, e1, e2, q⟩ => ⟨i, j, e1, e2, qI (show Builtin.bitXor (i : Int) (j : Int) = ((i ^^^ j : Nat) : Int) by rw [Bits.bitXor_pp (by omega) (by omega), Int.toNat_natCast, Int.toNat_natCast]) q⟩
theorem op_shrN : OpR X (binaryOp .RShift) (rN0 fun i j => .int ((i / 2 ^ j : Nat) : Int)) := OpR.imp op_shr fun x y H Q ⟨i, j, e1, e2, q⟩ => ⟨i, j, e1, e2, Int.natCast_nonneg j, qI (show (i : Int) / 2 ^ (j : Int).toNat = ((i / 2 ^ j : Nat) : Int) by rw [Int.toNat_natCast]; simp) q⟩
/-- & 1 -/
theorem op_and1 : OpR X (binaryOp .BitAnd) (fun x y H Q => ∃ i : Nat, x = .int (i : Int) ∧ y = .int 1 ∧ Q (.int ((i % 2 : Nat) : Int)) H) := OpR.imp op_and fun x y H Q ⟨i, e1, e2, q⟩ => ⟨i, 1, e1, e2, qI (show Builtin.bitAnd (i : Int) 1 = ((i % 2 : Nat) : Int) by
  have h := Bits.bitAnd_mask (x := (i : Int)) 1 (by omega)
  have e : (2 : Int) ^ 1 - 1 = 1 := by decide
  rw [e] at h
  have e3 : (i : Int) % 2 ^ 1 = ((i % 2 : Nat) : Int) := by omega
  rw [h, e3]) q⟩
/-- & 255 -/
theorem op_and255 : OpR X (binaryOp .BitAnd) (fun x y H Q => ∃ i : Nat, x = .int (i : Int) ∧ y = .int 255 ∧ Q (.int ((i % 256 : Nat) : Int)) H) := OpR.imp op_and fun x y H Q ⟨i, e1, e2, q⟩ => ⟨i, 255, e1, e2, qI (show Builtin.bitAnd (i : Int) 255 = ((i % 256 : Nat) : Int) by
  have h := Bits.bitAnd_mask (x := (i : Int)) 8 (by omega)
  have e : (2 : Int) ^ 8 - 1 = 255 := by decide
  rw [e] at h
  have e3 : (i : Int) % 2 ^ 8 = ((i % 256 : Nat) : Int) := by omega
  rw [h, e3]) q⟩
theorem dec_nat (i j : Nat) : decide (V.int (i : Int) = V.int (j : Int)) = decide (i = j) := by
  by_cases h : i = j
  · subst h
    simp
  · rw [decide_eq_false h, decide_eq_false (fun e => h (by injection e with e; omega))]
theorem op_eqN : OpR X (compareOp .Eq) (rN0 fun i j => .bl (decide (i = j))) := OpR.imp op_eq fun x y H Q ⟨i, j, e1, e2, q⟩ => by
  subst e1 e2
  exact ⟨rfl, qB (dec_nat i j) q⟩
theorem op_neN : OpR X (compareOp .NotEq) (rN0 fun i j => .bl (!decide (i = j))) := OpR.imp op_ne fun x y H Q ⟨i, j, e1, e2, q⟩ => by
  subst e1 e2
  exact ⟨rfl, qB (by rw [dec_nat]) q⟩
theorem dec_lt (i j : Nat) : decide ((i : Int) < (j : Int)) = decide (i < j) := by
  by_cases h : i < j
  · rw [decide_eq_true h, decide_eq_true (by omega)]
  · rw [decide_eq_false h, decide_eq_false (by omega)]
theorem dec_le (i j : Nat) : decide ((i : Int) ≤ (j : Int)) = decide (i ≤ j) := by
  by_cases h : i ≤ j
  · rw [decide_eq_true h, decide_eq_true (by omega)]
  · rw [decide_eq_false h, decide_eq_false (by omega)]
theorem op_ltN : OpR X (compareOp .Lt) (rN0 fun i j => .bl (decide (i < j))) := OpR.imp op_lt fun x y H Q ⟨i, j, e1, e2, q⟩ => ⟨i, j, e1, e2, qB (dec_lt _ _) q⟩
theorem op_leN : OpR X (compareOp .LtE) (rN0 fun i j => .bl (decide (i ≤ j))) := OpR.imp op_le fun x y H Q ⟨i, j, e1, e2, q⟩ => ⟨i, j, e1, e2, qB (dec_le _ _) q⟩
theorem op_gtN : OpR X (compareOp .Gt) (rN0 fun i j => .bl (decide (j < i))) := OpR.imp op_gt fun x y H Q ⟨i, j, e1, e2, q⟩ => ⟨i, j, e1, e2, qB (dec_lt _ _) q⟩
theorem op_geN : OpR X (compareOp .GtE) (rN0 fun i j => .bl (decide (j ≤ i))) := OpR.imp op_ge fun x y H Q ⟨i, j, e1, e2, q⟩ => ⟨i, j, e1, e2, qB (dec_le _ _) q⟩
end
theorem iteD {p A B : Prop} [Decidable p] (h1 : p → A) (h2 : ¬ p → B) : if decide p = true then A else B := by
  by_cases h : p
  · rw [decide_eq_true h, if_pos rfl]
    exact h1 h
  · rw [decide_eq_false h, if_neg Bool.false_ne_true]
    exact h2 h
theorem iteDn {p A B : Prop} [Decidable p] (h1 : ¬ p → A) (h2 : p → B) : if (!decide p) = true then A else B := by
  by_cases h : p
  · rw [decide_eq_true h]
    exact iteF (h2 h)
  · rw [decide_eq_false h]
    exact iteT (h1 h)
end NB
set_option Elab.async false
set_option linter.all false
set_option maxRecDepth 100000
set_option maxHeartbeats 2000000
namespace NB
open PySem PySem.Spec PyProof.Rows L2
/-- the whole numbers of the top -/
structure Txt (mg : Str → Option Value) : Prop where
  SN_START : IntAt mg "SN_START" (0)
  SN_FLOW : IntAt mg "SN_FLOW" (1)
  SN_WISH : IntAt mg "SN_WISH" (2)
  SN_SAY : IntAt mg "SN_SAY" (3)
  SN_HEARD : IntAt mg "SN_HEARD" (4)
  SS_START : IntAt mg "SS_START" (6)
  SS_HEARD : IntAt mg "SS_HEARD" (7)
  SS_SAY : IntAt mg "SS_SAY" (8)
  SS_SHARE : IntAt mg "SS_SHARE" (9)
  SOURCES : IntAt mg "SOURCES" (4)
  INVALID : IntAt mg "INVALID" (-22)
  NO_PLACE : IntAt mg "NO_PLACE" (-28)
  NO_SUCH_FLOW : IntAt mg "NO_SUCH_FLOW" (-2)
  NOTHING_YET : IntAt mg "NOTHING_YET" (-61)
  NOT_RIGHT : IntAt mg "NOT_RIGHT" (-71)
  MOST_LINES : IntAt mg "MOST_LINES" (16)
  MOST_FLOWS : IntAt mg "MOST_FLOWS" (16)
  MOST_UNITS : IntAt mg "MOST_UNITS" (200)
  LAST_NUMBER : IntAt mg "LAST_NUMBER" (4294967295)
  TO_SOURCE : IntAt mg "TO_SOURCE" (1)
  FROM_SOURCE : IntAt mg "FROM_SOURCE" (2)
  NUMBER_AT : IntAt mg "NUMBER_AT" (4)
  SHARE_AT : IntAt mg "SHARE_AT" (8)
  CHECK_AT : IntAt mg "CHECK_AT" (12)
  ALL_ONES : IntAt mg "ALL_ONES" (4294967295)
  POLYNOMIAL : IntAt mg "POLYNOMIAL" (2197175160)

section
variable {P : Program} {w : World} {K : PySem.W.Frag} {mg : Str → Option Value} {base : Heap}

/-! ### low_byte_first -/
abbrev s_low_byte_first : Stmt := top 27
theorem sc_low_byte_first : FnScope ["number", "shift"] ["number"] (defScope s_low_byte_first) := ⟨rfl, rfl, rfl, by decide +kernel, rfl, by decide +kernel, by decide +kernel⟩

def sp_low : Sp := fun vs H Q _ => ∃ n : Nat, vs = [.int (n : Int)] ∧ ∀ (H' : Hp) (l : Addr), H l = none → H' l = some (.lst (vN (Km357.le 4 n))) → Same H H' → Q (.ref l) H'
theorem ok_low_byte_first {f : Addr} {fd : FuncData} (Fn : Fun K "low_byte_first" "low_byte_first" s_low_byte_first f fd) : FnOk P w K mg base CX0 1 f fd ["number"] sp_low := by
  refine Fn.ok sc_low_byte_first (fun vs H Q E h => ?_) (fun cdv A outer s H vs Q E hr h => ?_)
  · obtain ⟨n, rfl, _⟩ := h
    rfl
  · obtain ⟨n, rfl, k⟩ := h
    refine ⟨_, (pss_one (ps_ret (by exact (pe_lc rfl sc_low_byte_first.nd (pi_tup (pe_tup (pa_cons pe_int (pa_cons pe_int (pa_cons pe_int (pa_cons pe_int pa_nil)))))) (blkOk_by (own := [("shift", 1)]) (show blkC ["number", "shift"] (defScope s_low_byte_first) _ _ = true by decide +kernel)) (fun _ _ _ _ _ => pg_name (i := 1) sc_low_byte_first.nd rfl (Or.inl rfl)) (fun _ _ _ _ _ => pts_nil) (fun _ _ _ _ _ => (pe_op op_and255 (pe_op op_shrN (pv 0) (pv 1)) pe_int)))))), ?_⟩
    refine ⟨(by show 4 ≤ sizeLine; decide), fun t ht => ?_⟩
    refine ⟨t, rfl, ⟨_, SqT.of upd_same⟩, fun D hD => ?_⟩
    have hDt : D ≠ t := fun e => by
      rw [e, upd_same] at hD
      cases hD
    have hDn : H D = none := by
      rw [upd_ne hDt] at hD
      exact hD
    refine lc_tup (K := K) (a := t) (xs := [.int 0, .int 8, .int 16, .int 24]) (fun i H' => H' t = some (.tup [.int 0, .int 8, .int 16, .int 24]) ∧ H' D = some (.lst (vN ((Km357.le 4 n).take i))) ∧ Same H H') ⟨?_, upd_same, ?_⟩ (fun i H' _ p => SqT.of p.1) ?_ (fun H' p => ?_)
    · rw [upd_ne hDt.symm]
      exact upd_same
    · exact (Same.upd ht).trans (Same.upd hD)
    · rintro i x H' hi ⟨p1, p2, p3⟩
      have fin : ∀ (j : Nat) (v : Nat), (Km357.le 4 n)[i]? = some v → ∀ y : V, y = V.int (v : Int) →
          ∃ acc, H' D = some (.lst acc) ∧ acc.length < sizeLine ∧ (upd H' D (.lst (acc ++ [y]))) t = some (.tup [.int 0, .int 8, .int 16, .int 24]) ∧ (upd H' D (.lst (acc ++ [y]))) D = some (.lst (vN ((Km357.le 4 n).take (i + 1)))) ∧ Same H (upd H' D (.lst (acc ++ [y]))) := by
        intro j v hv y hy
        subst hy
        refine ⟨_, p2, ?_, ?_, ?_, ?_⟩
        · rw [vN_length, List.length_take]
          have e : (Km357.le 4 n).length = 4 := by rw [NM.le4]; rfl
          rw [e]
          exact Nat.lt_of_le_of_lt (Nat.min_le_right _ _) (by decide)
        · rw [upd_ne hDt.symm]
          exact p1
        · rw [upd_same, NM.take_snoc hv, vN_append]
          rfl
        · intro b o e
          rw [upd_ne (ne_of_none e hDn)]
          exact p3 b o e
      rw [NM.le4] at fin ⊢
      match i, hi with
      | 0, hi =>
        cases Option.some.inj hi
        refine ⟨rfl, _, rfl, _, rfl, n, 0, rfl, rfl, _, rfl, rfl, ?_⟩
        exact fin 0 _ rfl _ (by rw [Nat.pow_zero, Nat.div_one])
      | 1, hi =>
        cases Option.some.inj hi
        refine ⟨rfl, _, rfl, _, rfl, n, 8, rfl, rfl, _, rfl, rfl, ?_⟩
        exact fin 0 _ rfl _ rfl
      | 2, hi =>
        cases Option.some.inj hi
        refine ⟨rfl, _, rfl, _, rfl, n, 16, rfl, rfl, _, rfl, rfl, ?_⟩
        exact fin 0 _ rfl _ rfl
      | 3, hi =>
        cases Option.some.inj hi
        refine ⟨rfl, _, rfl, _, rfl, n, 24, rfl, rfl, _, rfl, rfl, ?_⟩
        exact fin 0 _ rfl _ rfl
      | i + 4, hi => simp at hi
    · obtain ⟨p1, p2, p3⟩ := p
      refine k H' D hDn ?_ p3
      rw [p2]
      have e : (Km357.le 4 n).length = 4 := by rw [NM.le4]; rfl
      show some (HO.lst (vN ((Km357.le 4 n).take 4))) = _
      rw [List.take_of_length_le (Nat.le_of_eq e)]

/-! ### number_in -/
abbrev s_number_in : Stmt := top 28
theorem sc_number_in : FnScope ["message", "at"] ["message", "at"] (defScope s_number_in) := ⟨rfl, rfl, rfl, by decide +kernel, rfl, by decide +kernel, by decide +kernel⟩

def sp_num (K : PySem.W.Frag) : Sp := fun vs H Q _ => ∃ (a : Addr) (k : Nat) (l : List Nat), vs = [.ref a, .int (k : Int)] ∧ SqL K H a (vN l) ∧ k + 4 ≤ l.length ∧ (∀ b ∈ l, b < 256) ∧ Q (.int (Km357.num l k 4 : Nat)) H
theorem num_at {l : List Nat} {k : Nat} (h : k + 4 ≤ l.length) : Km357.num l k 4 = Km357.at_ l k + 256 * (Km357.at_ l (k + 1) + 256 * (Km357.at_ l (k + 2) + 256 * Km357.at_ l (k + 3))) := by
  have e : l = l.take k ++ Km357.at_ l k :: Km357.at_ l (k + 1) :: Km357.at_ l (k + 2) :: Km357.at_ l (k + 3) :: l.drop (k + 4) := by
    have d : ∀ j, j < l.length → l.drop j = Km357.at_ l j :: l.drop (j + 1) := fun j hj => by
      rw [List.drop_eq_getElem_cons hj]
      have q := NM.at_lt hj
      rw [List.getElem?_eq_getElem hj] at q
      rw [Option.some.inj q]
    rw [← d (k + 3) (by omega), ← d (k + 2) (by omega), ← d (k + 1) (by omega), ← d k (by omega), List.take_append_drop]
  have hl : (l.take k).length = k := by
    rw [List.length_take]
    omega
  have q := NM.num4 (Km357.at_ l k) (Km357.at_ l (k + 1)) (Km357.at_ l (k + 2)) (Km357.at_ l (k + 3)) (l.take k) (l.drop (k + 4))
  rw [← e, hl] at q
  exact q
theorem or_num {a b c d : Nat} (ha : a < 256) (hb : b < 256) (hc : c < 256) (hd : d < 256) :
    Builtin.bitOr (Builtin.bitOr (Builtin.bitOr (a : Int) ((b : Int) * 2 ^ 8)) ((c : Int) * 2 ^ 16)) ((d : Int) * 2 ^ 24) = ((a + 256 * (b + 256 * (c + 256 * d)) : Nat) : Int) := by
  rw [Bits.bitOr_join (a := (a : Int)) (b := (b : Int)) (k := 8) (by omega) (by omega) (by omega)]
  rw [Bits.bitOr_join (a := (a : Int) + (b : Int) * 2 ^ 8) (b := (c : Int)) (k := 16) (by omega) (by omega) (by omega)]
  rw [Bits.bitOr_join (a := (a : Int) + (b : Int) * 2 ^ 8 + (c : Int) * 2 ^ 16) (b := (d : Int)) (k := 24) (by omega) (by omega) (by omega)]
  omega
theorem pow_ok {b : Nat} (h : b < 256) (j : Int) (h0 : 0 ≤ j) (h1 : j ≤ 1000000) : CPow (b : Int) j := ⟨h0, h1, by omega⟩
theorem ok_number_in {f : Addr} {fd : FuncData} (Fn : Fun K "number_in" "number_in" s_number_in f fd) : FnOk P w K mg base CX0 1 f fd ["message", "at"] (sp_num K) := by
  refine Fn.ok sc_number_in (fun vs H Q E h => ?_) (fun cdv A outer s H vs Q E hr h => ?_)
  · obtain ⟨a, k, l, rfl, _⟩ := h
    rfl
  · obtain ⟨a, k, l, rfl, hS, hk, hb, q⟩ := h
    refine ⟨_, (pss_one (ps_ret (pe_op op_or (pe_op op_or (pe_op op_or (pe_ix ix_list (pv 0) (pv 1) (fun _ _ => rfl)) (pe_op op_shl (pe_ix ix_list (pv 0) (pe_op op_addN (pv 1) pe_int) (fun _ _ => rfl)) pe_int)) (pe_op op_shl (pe_ix ix_list (pv 0) (pe_op op_addN (pv 1) pe_int) (fun _ _ => rfl)) pe_int)) (pe_op op_shl (pe_ix ix_list (pv 0) (pe_op op_addN (pv 1) pe_int) (fun _ _ => rfl)) pe_int)))), ?_⟩
    have by_ : ∀ j, j < l.length → Km357.at_ l j < 256 := fun j hj => hb _ (List.mem_of_getElem? (NM.at_lt hj))
    have at0 : atI (vN l) (k : Int) = some (.int (Km357.at_ l k : Nat)) := atI_nat (vN_at (NM.at_lt (by omega)))
    have at1 : atI (vN l) ((k + 1 : Nat) : Int) = some (.int (Km357.at_ l (k + 1) : Nat)) := atI_nat (vN_at (NM.at_lt (by omega)))
    have at2 : atI (vN l) ((k + 2 : Nat) : Int) = some (.int (Km357.at_ l (k + 2) : Nat)) := atI_nat (vN_at (NM.at_lt (by omega)))
    have at3 : atI (vN l) ((k + 3 : Nat) : Int) = some (.int (Km357.at_ l (k + 3) : Nat)) := atI_nat (vN_at (NM.at_lt (by omega)))
    have c1 := pow_ok (by_ (k + 1) (by omega)) 8 (by decide) (by decide)
    have c2 := pow_ok (by_ (k + 2) (by omega)) 16 (by decide) (by decide)
    have c3 := pow_ok (by_ (k + 3) (by omega)) 24 (by decide) (by decide)
    refine ⟨_, rfl, _, rfl, a, _, _, _, rfl, rfl, hS, at0, _, rfl, _, rfl, k, 1, rfl, rfl, a, _, _, _, rfl, rfl, hS, at1, _, _, rfl, rfl, c1, _, _, rfl, rfl,
      _, rfl, _, rfl, k, 2, rfl, rfl, a, _, _, _, rfl, rfl, hS, at2, _, _, rfl, rfl, c2, _, _, rfl, rfl,
      _, rfl, _, rfl, k, 3, rfl, rfl, a, _, _, _, rfl, rfl, hS, at3, _, _, rfl, rfl, c3, _, _, rfl, rfl, ?_⟩
    have e := or_num (by_ k (by omega)) (by_ (k + 1) (by omega)) (by_ (k + 2) (by omega)) (by_ (k + 3) (by omega))
    rw [← num_at hk] at e
    show Q (.int (Builtin.bitOr (Builtin.bitOr (Builtin.bitOr (Km357.at_ l k : Int) ((Km357.at_ l (k + 1) : Int) * 2 ^ 8)) ((Km357.at_ l (k + 2) : Int) * 2 ^ 16)) ((Km357.at_ l (k + 3) : Int) * 2 ^ 24))) H
    rw [e]
    exact q

/-! ### crc_32c -/
abbrev s_crc_32c : Stmt := top 29
theorem sc_crc_32c : FnScope ["row", "check", "byte", "bit", "low"] ["row"] (defScope s_crc_32c) := ⟨rfl, rfl, rfl, by decide +kernel, rfl, by decide +kernel, by decide +kernel⟩

def sp_crc (K : PySem.W.Frag) : Sp := fun vs H Q _ => ∃ (a : Addr) (l : List Nat), vs = [.ref a] ∧ SqL K H a (vN l) ∧ Q (.int (Km357.crc l : Nat)) H
theorem ok_crc_32c {f : Addr} {fd : FuncData} (T : Txt mg) (B : Blt mg) (Fn : Fun K "crc_32c" "crc_32c" s_crc_32c f fd) : FnOk P w K mg base CX0 1 f fd ["row"] (sp_crc K) := by
  refine Fn.ok sc_crc_32c (fun vs H Q E h => ?_) (fun cdv A outer s H vs Q E hr h => ?_)
  · obtain ⟨a, l, rfl, _⟩ := h
    rfl
  · obtain ⟨a, l, rfl, hS, q⟩ := h
    refine ⟨_, (pss_cons (ps_set (i := 1) sc_crc_32c.nd rfl (Or.inl rfl) (pe_num T.ALL_ONES rfl)) (pss_cons (ps_for PassesOwn.never rfl (pi_list (pv 0)) (pg_name (i := 2) sc_crc_32c.nd rfl (Or.inl rfl)) (pss_cons (ps_set (i := 1) sc_crc_32c.nd rfl (Or.inl rfl) (pe_op op_xorN (pv 1) (pv 2))) (pss_one (ps_for PassesOwn.never rfl (pi_range1 rfl B.range (pa_cons pe_int pa_nil)) (pg_name (i := 3) sc_crc_32c.nd rfl (Or.inl rfl)) (pss_cons (ps_set (i := 4) sc_crc_32c.nd rfl (Or.inl rfl) (pe_op op_and1 (pv 1) pe_int)) (pss_cons (ps_set (i := 1) sc_crc_32c.nd rfl (Or.inl rfl) (pe_op op_shrN (pv 1) pe_int)) (pss_one (ps_if (pt_cmpR op_eqN (pv 4) pe_int (nomark _)) (pss_one (ps_set (i := 1) sc_crc_32c.nd rfl (Or.inl rfl) (pe_op op_xorN (pv 1) (pe_num T.POLYNOMIAL rfl)))) pss_nil)))))))) (pss_one (ps_ret (pe_op op_xorN (pv 1) (pe_num T.ALL_ONES rfl)))))), ?_⟩
    refine ⟨_, rfl, a, rfl, ⟨_, hS⟩, for_list (K := K) (a := a) (xs := vN l) (fun i σ H' => H' = H ∧ ∃ v2 v3 v4, σ = [some (.ref a), some (.int (((l.take i).foldl Km357.crcByte 0xFFFFFFFF : Nat) : Int)), v2, v3, v4])
      ⟨rfl, _, _, _, rfl⟩ (fun i σ H' _ p => by rw [p.1]; exact hS) ?_ ?_⟩
    · rintro i x σ H' hi ⟨rfl, v2, v3, v4, rfl⟩
      obtain ⟨b, hb, rfl⟩ := vN_of hi
      refine ⟨_, rfl, _, rfl, _, _, rfl, rfl, ?_⟩
      refine ⟨8, rfl, by decide, by decide, for_range (n := 8) (fun j σ H'' => H'' = H' ∧ ∃ v3 v4, σ = [some (.ref a), some (.int ((NM.bitsN ((l.take i).foldl Km357.crcByte 0xFFFFFFFF ^^^ b) j : Nat) : Int)), some (.int (b : Int)), v3, v4])
        ⟨rfl, _, _, rfl⟩ ?_ ?_⟩
      · rintro j σ H'' hj ⟨rfl, v3, v4, rfl⟩
        generalize hc : NM.bitsN ((l.take i).foldl Km357.crcByte 0xFFFFFFFF ^^^ b) j = c
        have hs : NM.bitsN ((l.take i).foldl Km357.crcByte 0xFFFFFFFF ^^^ b) (j + 1) = Km357.crcBit c := by rw [NM.bitsN_succ, hc]
        refine ⟨_, rfl, _, rfl, rfl, _, rfl, c, 1, rfl, rfl, _, rfl, c % 2, 1, rfl, rfl, _, rfl, ?_⟩
        refine iteD (fun h => ?_) (fun h => ?_)
        · have e : Km357.crcBit c = (c / 2 ^ 1) ^^^ 0x82F63B78 := if_pos h
          exact ⟨_, rfl, c / 2 ^ 1, 0x82F63B78, rfl, rfl, rfl, some (.int (0 + (j : Int))), some (.int ((c % 2 : Nat) : Int)), by rw [hs, e]; rfl⟩
        · have e : Km357.crcBit c = c / 2 ^ 1 := if_neg h
          exact ⟨rfl, some (.int (0 + (j : Int))), some (.int ((c % 2 : Nat) : Int)), by rw [hs, e]; rfl⟩
      · rintro σ H'' ⟨rfl, v3, v4, rfl⟩
        exact ⟨rfl, some (.int (b : Int)), v3, v4, by rw [NM.take_snoc hb, List.foldl_append]; rfl⟩
    · rintro σ H' ⟨rfl, v2, v3, v4, rfl⟩
      rw [vN_length, List.take_length]
      exact ⟨_, rfl, _, 0xFFFFFFFF, rfl, rfl, q⟩
end
end NB
set_option Elab.async false
set_option linter.all false
set_option maxRecDepth 100000
set_option maxHeartbeats 2000000
namespace NB
open PySem PySem.Spec PyProof.Rows L2
section
variable {P : Program} {w : World} {K : PySem.W.Frag} {mg : Str → Option Value} {base : Heap}
theorem le4_len (n : Nat) : (Km357.le 4 n).length = 4 := by rw [NM.le4]; rfl

/-! ### message_of -/
abbrev s_message_of : Stmt := top 30
theorem sc_message_of : FnScope ["kind", "flow", "number", "share", "row"] ["kind", "flow", "number", "share"] (defScope s_message_of) := ⟨rfl, rfl, rfl, by decide +kernel, rfl, by decide +kernel, by decide +kernel⟩

def sp_msg : Sp := fun vs H Q _ => ∃ k f n x : Nat, vs = [.int (k : Int), .int (f : Int), .int (n : Int), .int (x : Int)] ∧ ∀ (H' : Hp) (l : Addr), H l = none → H' l = some (.lst (vN (Km357.Message.bytes ⟨k, f, n, x⟩))) → Same H H' → Q (.ref l) H'
theorem ok_message_of {f : Addr} {fd : FuncData} (Fn : Fun K "message_of" "message_of" s_message_of f fd)
    (h_low_byte_first : Has P w K mg base "low_byte_first" 1 ["number"] sp_low) (h_crc_32c : Has P w K mg base "crc_32c" 1 ["row"] (sp_crc K)) : FnOk P w K mg base CX0 2 f fd ["kind", "flow", "number", "share"] sp_msg := by
  refine Fn.ok sc_message_of (fun vs H Q E h => ?_) (fun cdv A outer s H vs Q E hr h => ?_)
  · obtain ⟨_, _, _, _, rfl, _⟩ := h
    rfl
  · obtain ⟨kd, fl, nm, sh, rfl, k⟩ := h
    refine ⟨_, (pss_cons (ps_set (i := 4) sc_message_of.nd rfl (Or.inl rfl) (pe_op op_cat (pe_op op_cat (pe_lst (pa_cons (pv 0) (pa_cons (pv 1) (pa_cons pe_int (pa_cons pe_int pa_nil))))) (pe_has h_low_byte_first hr (by decide) rfl (pa_cons (pv 2) pa_nil))) (pe_has h_low_byte_first hr (by decide) rfl (pa_cons (pv 3) pa_nil)))) (pss_one (ps_ret (pe_op op_cat (pv 4) (pe_has h_low_byte_first hr (by decide) rfl (pa_cons (pe_has h_crc_32c hr (by decide) rfl (pa_cons (pv 4) pa_nil)) pa_nil)))))), ?_⟩
    refine ⟨_, rfl, _, rfl, (by show 4 ≤ sizeLine; decide), fun p0 hp0 => ?_⟩
    refine ⟨_, rfl, nm, rfl, fun H1 l1 n1 e1 s1 => ?_⟩
    have f0 : H1 p0 = some (.lst (vN [kd, fl, 0, 0])) := s1 _ _ upd_same
    refine ⟨p0, l1, _, _, rfl, rfl, f0, e1, (by rw [vN_length, vN_length, le4_len]; show 4 + 4 ≤ sizeLine; decide), fun p1 hp1 => ?_⟩
    refine ⟨_, rfl, sh, rfl, fun H2 l2 n2 e2 s2 => ?_⟩
    have f1 : H2 p1 = some (.lst (vN [kd, fl, 0, 0] ++ vN (Km357.le 4 nm))) := s2 _ _ upd_same
    refine ⟨p1, l2, _, _, rfl, rfl, f1, e2, (by rw [List.length_append, vN_length, vN_length, vN_length, le4_len, le4_len]; show 8 + 4 ≤ sizeLine; decide), fun p2 hp2 => ?_⟩
    have er : (vN [kd, fl, 0, 0] ++ vN (Km357.le 4 nm)) ++ vN (Km357.le 4 sh) = vN ([kd, fl, 0, 0] ++ (Km357.le 4 nm ++ Km357.le 4 sh)) := by rw [vN_append, vN_append, List.append_assoc]
    rw [er]
    refine ⟨_, rfl, _, rfl, p2, _, rfl, SqL.of upd_same, _, rfl, fun H3 l3 n3 e3 s3 => ?_⟩
    refine ⟨p2, l3, _, _, rfl, rfl, s3 _ _ upd_same, e3, (by rw [vN_length, vN_length, List.length_append, List.length_append, le4_len, le4_len, le4_len]; show 4 + (4 + 4) + 4 ≤ sizeLine; decide), fun p3 hp3 => ?_⟩
    have sm : Same H H3 := ((((Same.upd hp0).trans s1).trans ((Same.upd hp1).trans s2)).trans ((Same.upd hp2).trans s3))
    refine k _ p3 (sm.free hp3) ?_ (sm.trans (Same.upd hp3))
    rw [upd_same, ← vN_append]
    rfl

/-! ### is_right -/
abbrev s_is_right : Stmt := top 31
theorem sc_is_right : FnScope ["message"] ["message"] (defScope s_is_right) := ⟨rfl, rfl, rfl, by decide +kernel, rfl, by decide +kernel, by decide +kernel⟩

def sp_right (K : PySem.W.Frag) : Sp := fun vs H Q _ => ∃ (a : Addr) (l : List Nat), vs = [.ref a] ∧ SqL K H a (vN l) ∧ l.length = 16 ∧ (∀ b ∈ l, b < 256) ∧ ∀ H' : Hp, Same H H' → Q (.bl (decide (NM.Right l))) H'
theorem cut_take (xs : List V) (k : Nat) : cutV xs none (some (k : Int)) = xs.take k := by
  unfold cutV
  rw [HT.sIx_none, HT.sIx_nat, List.drop_zero, Nat.sub_zero]
  by_cases h : k ≤ xs.length
  · rw [Nat.min_eq_left h]
  · rw [Nat.min_eq_right (by omega), List.take_length, List.take_of_length_le (by omega)]
theorem vN_take (l : List Nat) (k : Nat) : (vN l).take k = vN (l.take k) := List.map_take.symm
theorem vN_drop (l : List Nat) (k : Nat) : (vN l).drop k = vN (l.drop k) := List.map_drop.symm
theorem in_two (x a b : Nat) : inV (.int (x : Int)) [.int (a : Int), .int (b : Int)] = decide (x = a ∨ x = b) := by
  show (((a : Int) == (x : Int)) || (((b : Int) == (x : Int)) || false)) = _
  by_cases h1 : x = a
  · subst h1
    simp
  · by_cases h2 : x = b
    · subst h2
      simp
    · rw [decide_eq_false (by omega)]
      have e1 : ((a : Int) == (x : Int)) = false := beq_eq_false_iff_ne.mpr (by omega)
      have e2 : ((b : Int) == (x : Int)) = false := beq_eq_false_iff_ne.mpr (by omega)
      rw [e1, e2]
      rfl
theorem atN {l : List Nat} {j : Nat} (h : j < l.length) : atI (vN l) (j : Int) = some (.int (Km357.at_ l j : Nat)) := atI_nat (vN_at (NM.at_lt h))
theorem ok_is_right {f : Addr} {fd : FuncData} (T : Txt mg) (Fn : Fun K "is_right" "is_right" s_is_right f fd)
    (h_number_in : Has P w K mg base "number_in" 1 ["message", "at"] (sp_num K)) (h_crc_32c : Has P w K mg base "crc_32c" 1 ["row"] (sp_crc K)) : FnOk P w K mg base CX0 2 f fd ["message"] (sp_right K) := by
  refine Fn.ok sc_is_right (fun vs H Q E h => ?_) (fun cdv A outer s H vs Q E hr h => ?_)
  · obtain ⟨a, l, rfl, _⟩ := h
    rfl
  · obtain ⟨a, l, rfl, hS, hl, hb, k⟩ := h
    refine ⟨_, (pss_cons (ps_if (pt_cmpR op_neN (pe_has h_number_in hr (by decide) rfl (pa_cons (pv 0) (pa_cons (pe_num T.CHECK_AT rfl) pa_nil))) (pe_has h_crc_32c hr (by decide) rfl (pa_cons (pe_slice sl_list (pv 0) po_none (po_some (pe_num T.CHECK_AT rfl))) pa_nil)) (nomark _)) (pss_one (ps_ret pe_bl)) pss_nil) (pss_cons (ps_if (PW.pt (pw_or (pt_cmpR op_notIn_seq (pe_ix ix_list (pv 0) pe_int (fun _ _ => rfl)) (pe_tup (pa_cons (pe_num T.TO_SOURCE rfl) (pa_cons (pe_num T.FROM_SOURCE rfl) pa_nil))) (by rfl)) (pw_or1 (pt_cmpR op_geN (pe_ix ix_list (pv 0) pe_int (fun _ _ => rfl)) (pe_num T.MOST_FLOWS rfl) (nomark _))))) (pss_one (ps_ret pe_bl)) pss_nil) (pss_cons (ps_if (PW.pt (pw_or (pt_cmpR op_neN (pe_ix ix_list (pv 0) pe_int (fun _ _ => rfl)) pe_int (nomark _)) (pw_or1 (pt_cmpR op_neN (pe_ix ix_list (pv 0) pe_int (fun _ _ => rfl)) pe_int (nomark _))))) (pss_one (ps_ret pe_bl)) pss_nil) (pss_one (ps_ret (pe_and (pe_cmpR op_neN (pe_has h_number_in hr (by decide) rfl (pa_cons (pv 0) (pa_cons (pe_num T.NUMBER_AT rfl) pa_nil))) pe_int (nomark _)) (pe_one (pe_cmpR op_leN (pe_has h_number_in hr (by decide) rfl (pa_cons (pv 0) (pa_cons (pe_num T.SHARE_AT rfl) pa_nil))) (pe_num T.MOST_UNITS rfl) (nomark _))))))))), ?_⟩
    refine ⟨_, rfl, a, 12, l, rfl, hS, by omega, hb, _, rfl, _, rfl, a, _, rfl, hS, fun p hp => ?_⟩
    have ec : cutV (vN l) none (some 12) = vN (l.take 12) := (cut_take _ 12).trans (vN_take _ _)
    rw [ec]
    refine ⟨p, l.take 12, rfl, SqL.of upd_same, _, _, rfl, rfl, _, rfl, ?_⟩
    have s1 : Same H (upd H p (.lst (vN (l.take 12)))) := Same.upd hp
    have hS1 := s1.seq hS
    have no : ∀ {H' : Hp}, Same H H' → ¬ NM.Right l → Q (.bl false) H' := fun {H'} sm c => by
      have q := k _ sm
      rw [decide_eq_false c] at q
      exact q
    refine iteDn (fun c => no s1 fun r => c r.1) (fun c1 => ?_)
    refine ⟨_, rfl, a, _, _, _, rfl, rfl, hS1, atN (j := 0) (by omega), (by show 2 ≤ sizeLine; decide), fun t ht => ?_⟩
    have s2 := s1.trans (Same.upd (o := .tup [.int 1, .int 2]) ht)
    have hS2 := s2.seq hS
    refine ⟨t, _, rfl, .inr (SqT.of upd_same), rfl, rfl, _, rfl, ?_⟩
    have e2 : (!inV (.int ((Km357.at_ l 0 : Nat) : Int)) [.int 1, .int 2]) = !decide (Km357.at_ l 0 = 1 ∨ Km357.at_ l 0 = 2) := congrArg _ (in_two _ 1 2)
    show if (!inV (.int ((Km357.at_ l 0 : Nat) : Int)) [.int 1, .int 2]) = true then _ else _
    rw [e2]
    refine iteDn (fun c => no s2 fun r => c r.2.1) (fun c2 => ?_)
    refine ⟨_, rfl, a, _, _, _, rfl, rfl, hS2, atN (j := 1) (by omega), _, 16, rfl, rfl, _, rfl, ?_⟩
    refine iteD (fun c => no s2 fun r => by have := r.2.2.1; omega) (fun c3 => ?_)
    refine ⟨_, rfl, a, _, _, _, rfl, rfl, hS2, atN (j := 2) (by omega), _, 0, rfl, rfl, _, rfl, ?_⟩
    refine iteDn (fun c => no s2 fun r => c r.2.2.2.1) (fun c4 => ?_)
    refine ⟨_, rfl, a, _, _, _, rfl, rfl, hS2, atN (j := 3) (by omega), _, 0, rfl, rfl, _, rfl, ?_⟩
    refine iteDn (fun c => no s2 fun r => c r.2.2.2.2.1) (fun c5 => ?_)
    refine ⟨_, rfl, a, 4, l, rfl, hS2, by omega, hb, _, 0, rfl, rfl, _, rfl, ?_⟩
    refine iteDn (fun c6 => ?_) (fun c => no s2 fun r => r.2.2.2.2.2.1 c)
    refine ⟨_, rfl, a, 8, l, rfl, hS2, by omega, hb, _, 200, rfl, rfl, ?_⟩
    have q := k _ s2
    by_cases c7 : Km357.num l 8 4 ≤ 200
    · have r : NM.Right l := ⟨c1, c2, by omega, c4, c5, c6, c7⟩
      rw [decide_eq_true r] at q
      show Q (.bl (decide (Km357.num l 8 4 ≤ 200))) _
      rw [decide_eq_true c7]
      exact q
    · have r : ¬ NM.Right l := fun r => c7 r.2.2.2.2.2.2
      rw [decide_eq_false r] at q
      show Q (.bl (decide (Km357.num l 8 4 ≤ 200))) _
      rw [decide_eq_false c7]
      exact q

/-! ### lines_of -/
abbrev s_lines_of : Stmt := top 32
theorem sc_lines_of : FnScope ["path", "line"] ["path"] (defScope s_lines_of) := ⟨rfl, rfl, rfl, by decide +kernel, rfl, by decide +kernel, by decide +kernel⟩

def sp_lines : Sp := fun vs H Q _ => ∃ p : Nat, vs = [.int (p : Int)] ∧ ∀ (H' : Hp) (l : Addr), H l = none → H' l = some (.lst (vN (NM.bitsOf p))) → Same H H' → Q (.ref l) H'
theorem ok_lines_of {f : Addr} {fd : FuncData} (T : Txt mg) (B : Blt mg) (Fn : Fun K "lines_of" "lines_of" s_lines_of f fd) : FnOk P w K mg base CX0 1 f fd ["path"] sp_lines := by
  refine Fn.ok sc_lines_of (fun vs H Q E h => ?_) (fun cdv A outer s H vs Q E hr h => ?_)
  · obtain ⟨a, rfl, _⟩ := h
    rfl
  · obtain ⟨p, rfl, k⟩ := h
    refine ⟨_, (pss_one (ps_ret (by exact (pe_lc rfl sc_lines_of.nd (pi_range1 rfl B.range (pa_cons (pe_num T.MOST_LINES rfl) pa_nil)) (blkOk_by (own := [("line", 1)]) (show blkC ["path", "line"] (defScope s_lines_of) _ _ = true by decide +kernel)) (fun _ _ _ _ _ => pg_name (i := 1) sc_lines_of.nd rfl (Or.inl rfl)) (fun _ _ _ _ _ => pts_one (by exact (pt_cmpR op_eqN (pe_op op_and1 (pe_op op_shrN (pv 0) (pv 1)) pe_int) pe_int (nomark _)))) (fun _ _ _ _ _ => (pv 1)))))), ?_⟩
    refine ⟨16, rfl, by decide, by decide, fun D hD => ?_⟩
    refine lc_range (lo := 0) (n := 16) (fun i H' => H' D = some (.lst (vN ((List.range i).filter fun k => p.testBit k))) ∧ Same H H') ⟨upd_same, Same.upd hD⟩ ?_ (fun H' q => k H' D hD q.1 q.2)
    rintro i H' hi ⟨p1, p2⟩
    refine ⟨rfl, _, rfl, _, rfl, p, i, rfl, congrArg V.int (Int.zero_add _), _, rfl, rfl, _, 1, rfl, rfl, _, rfl, ?_⟩
    have eb := NM.testBit_shift p i
    refine iteD (fun c => ?_) (fun c => ?_)
    · have hb : p.testBit i = true := by
        cases e : p.testBit i with
        | true => rfl
        | false => rw [e] at eb; simp at eb; omega
      refine ⟨_, rfl, _, p1, ?_, ?_, ?_⟩
      · rw [vN_length]
        exact Nat.lt_of_le_of_lt (List.length_filter_le _ _) (by rw [List.length_range]; exact Nat.lt_trans hi (by decide))
      · rw [upd_same, List.range_succ, List.filter_append, vN_append]
        have e0 : (0 : Int) + (i : Int) = (i : Int) := Int.zero_add _
        rw [e0]
        have e1 : List.filter (fun k => p.testBit k) [i] = [i] := by
          rw [List.filter_cons, if_pos hb]
          rfl
        rw [e1]
        rfl
      · intro b o e
        rw [upd_ne (ne_of_none e hD)]
        exact p2 b o e
    · have hb : ¬ p.testBit i = true := fun e => by
        rw [if_pos e] at eb
        exact c eb
      refine ⟨?_, p2⟩
      rw [p1, List.range_succ, List.filter_append]
      have e1 : List.filter (fun k => p.testBit k) [i] = [] := by
        rw [List.filter_cons, if_neg hb]
        rfl
      rw [e1, List.append_nil]
end
end NB
set_option Elab.async false
set_option linter.all false
set_option maxRecDepth 100000
set_option maxHeartbeats 2000000
namespace NB
open PySem PySem.Spec PyProof.Rows L2
/-! ### attributes -/
theorem lk_hd {f : Str} {x : V} {r : List (Str × V)} : List.lookup f ((f, x) :: r) = some x := by simp [List.lookup]
theorem lk_tl {f g : Str} {x : V} {r : List (Str × V)} (h : (f == g) = false) : List.lookup f ((g, x) :: r) = List.lookup f r := by simp [List.lookup, h]
theorem pf_hd {f : Str} {x v : V} {r : List (Str × V)} : putF f v ((f, x) :: r) = (f, v) :: r := if_pos rfl
theorem pf_tl {f g : Str} {x v : V} {r : List (Str × V)} (h : ¬ g = f) : putF f v ((g, x) :: r) = (g, x) :: putF f v r := if_neg h
/-- a Flow's attributes, its lines' list at l -/
def ff (l : Addr) (f : Km357.Flow) : List (Str × V) := [("lines", .ref l), ("wish", .int (f.wish.most : Nat)), ("told", .int (f.told : Nat)), ("told_before", .int (f.before : Nat)), ("number", .int (f.number : Nat)), ("waits", .bl f.waits)]
section
variable (l : Addr) (f : Km357.Flow)
theorem ff_lines : (ff l f).lookup ("lines" : Str) = some (V.ref l) := lk_hd
theorem ff_wish : (ff l f).lookup ("wish" : Str) = some (V.int (f.wish.most : Nat)) := (lk_tl (by decide +kernel)).trans lk_hd
theorem ff_told : (ff l f).lookup ("told" : Str) = some (V.int (f.told : Nat)) := (lk_tl (by decide +kernel)).trans ((lk_tl (by decide +kernel)).trans lk_hd)
theorem ff_before : (ff l f).lookup ("told_before" : Str) = some (V.int (f.before : Nat)) := (lk_tl (by decide +kernel)).trans ((lk_tl (by decide +kernel)).trans ((lk_tl (by decide +kernel)).trans lk_hd))
theorem ff_number : (ff l f).lookup ("number" : Str) = some (V.int (f.number : Nat)) := (lk_tl (by decide +kernel)).trans ((lk_tl (by decide +kernel)).trans ((lk_tl (by decide +kernel)).trans ((lk_tl (by decide +kernel)).trans lk_hd)))
theorem ff_waits : (ff l f).lookup ("waits" : Str) = some (V.bl f.waits) := (lk_tl (by decide +kernel)).trans ((lk_tl (by decide +kernel)).trans ((lk_tl (by decide +kernel)).trans ((lk_tl (by decide +kernel)).trans ((lk_tl (by decide +kernel)).trans lk_hd))))
theorem ff_no {m : Str} (h1 : (m == "lines") = false) (h2 : (m == "wish") = false) (h3 : (m == "told") = false) (h4 : (m == "told_before") = false) (h5 : (m == "number") = false) (h6 : (m == "waits") = false) : (ff l f).lookup m = none := by
  unfold ff
  rw [lk_tl h1, lk_tl h2, lk_tl h3, lk_tl h4, lk_tl h5, lk_tl h6]
  rfl
theorem ff_putWish (x : Nat) : putF "wish" (.int (x : Int)) (ff l f) = ff l { f with wish := { f.wish with most := x } } := by
  unfold ff
  rw [pf_tl (by decide +kernel), pf_hd]
theorem ff_putTold (x : Nat) : putF "told" (.int (x : Int)) (ff l f) = ff l { f with told := x } := by
  unfold ff
  rw [pf_tl (by decide +kernel), pf_tl (by decide +kernel), pf_hd]
theorem ff_putBefore (x : Nat) : putF "told_before" (.int (x : Int)) (ff l f) = ff l { f with before := x } := by
  unfold ff
  rw [pf_tl (by decide +kernel), pf_tl (by decide +kernel), pf_tl (by decide +kernel), pf_hd]
theorem ff_putNumber (x : Nat) : putF "number" (.int (x : Int)) (ff l f) = ff l { f with number := x } := by
  unfold ff
  rw [pf_tl (by decide +kernel), pf_tl (by decide +kernel), pf_tl (by decide +kernel), pf_tl (by decide +kernel), pf_hd]
theorem ff_putWaits (b : Bool) : putF "waits" (.bl b) (ff l f) = ff l { f with waits := b } := by
  unfold ff
  rw [pf_tl (by decide +kernel), pf_tl (by decide +kernel), pf_tl (by decide +kernel), pf_tl (by decide +kernel), pf_tl (by decide +kernel), pf_hd]
theorem pf_nil {f : Str} {v : V} : putF f v [] = [(f, v)] := rfl
theorem ff_new (p m : Nat) : putF "waits" (.bl false) (putF "number" (.int 0) (putF "told_before" (.int 0) (putF "told" (.int 0) (putF "wish" (.int (m : Int)) (putF "lines" (.ref l) []))))) = ff l ⟨⟨p, m⟩, 0, 0, 0, false⟩ := by
  repeat first | rw [pf_nil] | rw [pf_tl (by decide +kernel)]
  rfl
theorem len_put {f : Str} {v : V} {fs : List (Str × V)} {n : Nat} (h : fs.length ≤ n) : (putF f v fs).length ≤ n + 1 := Nat.le_trans (length_putF _ _ _) (Nat.succ_le_succ h)
end
/-- the class Flow -/
structure ClsF (K : PySem.W.Frag) (C : Addr) : Prop where
  cl : Cls K C
  lines : NoAttr K C "lines"
  wish : NoAttr K C "wish"
  told : NoAttr K C "told"
  before : NoAttr K C "told_before"
  number : NoAttr K C "number"
  waits : NoAttr K C "waits"
/-- the flow f stands at a, its lines at l -/
structure FlAt (C : Addr) (H : Hp) (a l : Addr) (f : Km357.Flow) : Prop where
  ins : ∃ dx, H a = some (.ins C dx (ff l f))
  lin : H l = some (.lst (vN (NM.bitsOf f.wish.path)))
theorem FlAt.ne {C : Addr} {H : Hp} {a l : Addr} {f : Km357.Flow} (h : FlAt C H a l f) : l ≠ a := by
  obtain ⟨dx, e⟩ := h.ins
  exact ne_of h.lin e (by intro q; cases q)
/-- all but the things at S stay -/
def Keep (S : Addr → Prop) (H H' : Hp) : Prop := ∀ b o, H b = some o → ¬ S b → H' b = some o
section
variable {P : Program} {w : World} {K : PySem.W.Frag} {mg : Str → Option Value} {base : Heap} {C : Addr}
abbrev s_Flow_init : Stmt := inClass (top 33) 0
theorem sc_Flow_init : FnScope ["self", "path", "wish"] ["self", "path", "wish"] (defScope s_Flow_init) := ⟨rfl, rfl, rfl, by decide +kernel, rfl, by decide +kernel, by decide +kernel⟩

def sp_Flow (C : Addr) : Sp := fun vs H Q _ => ∃ (x dx : Addr) (p m : Nat), vs = [.ref x, .int (p : Int), .int (m : Int)] ∧ H x = some (.ins C dx []) ∧
  ∀ (H' : Hp) (l : Addr), H l = none → FlAt C H' x l ⟨⟨p, m⟩, 0, 0, 0, false⟩ → (∀ b o, H b = some o → b ≠ x → H' b = some o) → Q .non H'
theorem ok_Flow {f : Addr} {fd : FuncData} (T : ClsF K C) (Fn : Fun K "__init__" "Flow.__init__" s_Flow_init f fd)
    (h_lines_of : Has P w K mg base "lines_of" 1 ["path"] sp_lines) : FnOk P w K mg base CX0 2 f fd ["self", "path", "wish"] (sp_Flow C) := by
  refine Fn.ok sc_Flow_init (fun vs H Q E h => ?_) (fun cdv A outer s H vs Q E hr h => ?_)
  · obtain ⟨x, dx, p, m, rfl, _⟩ := h
    rfl
  · obtain ⟨x, dx, p, m, rfl, hx, k⟩ := h
    refine ⟨_, (pss_cons (ps_fld (pv 0) (pe_has h_lines_of hr (by decide) rfl (pa_cons (pv 1) pa_nil)) (by rfl)) (pss_cons (ps_fld (pv 0) (pv 2) (by rfl)) (pss_cons (ps_fld (pv 0) pe_int (by rfl)) (pss_cons (ps_fld (pv 0) pe_int (by rfl)) (pss_cons (ps_fld (pv 0) pe_int (by rfl)) (pss_one (ps_fld (pv 0) pe_bl (by rfl)))))))), ?_⟩
    refine ⟨_, rfl, p, rfl, fun H1 l n1 e1 s1 => ?_⟩
    have hx1 := s1 _ _ hx
    have hlx : l ≠ x := ne_of e1 hx1 (by intro q; cases q)
    refine ⟨_, rfl, x, C, dx, _, rfl, hx1, T.cl, T.lines, (by show 0 < 1000; decide), ?_⟩
    refine ⟨_, rfl, _, rfl, x, C, dx, _, rfl, upd_same, T.cl, T.wish, (Nat.lt_of_le_of_lt (length_putF _ _ _) (by show 1 < 1000; decide)), ?_⟩
    refine ⟨_, rfl, x, C, dx, _, rfl, upd_same, T.cl, T.told, ?_, ?_⟩
    · exact Nat.lt_of_le_of_lt (len_put (len_put (Nat.le_refl 0))) (by decide)
    refine ⟨_, rfl, x, C, dx, _, rfl, upd_same, T.cl, T.before, ?_, ?_⟩
    · exact Nat.lt_of_le_of_lt (len_put (len_put (len_put (Nat.le_refl 0)))) (by decide)
    refine ⟨_, rfl, x, C, dx, _, rfl, upd_same, T.cl, T.number, ?_, ?_⟩
    · exact Nat.lt_of_le_of_lt (len_put (len_put (len_put (len_put (Nat.le_refl 0))))) (by decide)
    refine ⟨_, rfl, x, C, dx, _, rfl, upd_same, T.cl, T.waits, ?_, ?_⟩
    · exact Nat.lt_of_le_of_lt (len_put (len_put (len_put (len_put (len_put (Nat.le_refl 0)))))) (by decide)
    rw [upd_upd, upd_upd, upd_upd, upd_upd, upd_upd, ff_new l p m]
    refine k _ l n1 ⟨⟨dx, upd_same⟩, ?_⟩ fun b o e hb => ?_
    · rw [upd_ne hlx]
      exact e1
    · rw [upd_ne hb]
      exact s1 b o e

/-! ### may_use, can_be_told -/
abbrev s_may_use : Stmt := inClass (top 33) 1
theorem sc_may_use : FnScope ["self"] ["self"] (defScope s_may_use) := ⟨rfl, rfl, rfl, by decide +kernel, rfl, by decide +kernel, by decide +kernel⟩

def sp_use (C : Addr) : Sp := fun vs H Q _ => ∃ (a l : Addr) (f : Km357.Flow), vs = [.ref a] ∧ FlAt C H a l f ∧ Q (.int (f.bound : Nat)) H
theorem ok_may_use {f : Addr} {fd : FuncData} (T : ClsF K C) (B : Blt mg) (Fn : Fun K "may_use" "Flow.may_use" s_may_use f fd) : FnOk P w K mg base CX0 1 f fd ["self"] (sp_use C) := by
  refine Fn.ok sc_may_use (fun vs H Q E h => ?_) (fun cdv A outer s H vs Q E hr h => ?_)
  · obtain ⟨a, l, f, rfl, _⟩ := h
    rfl
  · obtain ⟨a, l, f, rfl, ⟨⟨dx, ha⟩, _⟩, q⟩ := h
    refine ⟨_, (pss_cons (ps_if (pt_truth (pe_fld (pv 0) (by rfl)) (fun _ => rfl)) (pss_one (ps_ret (pe_callB (call_max2 rfl) (by rfl) B.max boot_max (pa_cons (pe_fld (pv 0) (by rfl)) (pa_cons (pe_fld (pv 0) (by rfl)) pa_nil))))) pss_nil) (pss_one (ps_ret (pe_fld (pv 0) (by rfl))))), ?_⟩
    refine ⟨_, rfl, a, C, dx, _, _, rfl, ha, T.cl, T.waits, ff_waits l f, f.waits, rfl, ?_⟩
    unfold Km357.Flow.bound at q
    cases hw : f.waits with
    | true =>
      rw [hw, if_pos rfl] at q
      refine iteT ⟨_, rfl, a, C, dx, _, _, rfl, ha, T.cl, T.told, ff_told l f, _, rfl, a, C, dx, _, _, rfl, ha, T.cl, T.before, ff_before l f, _, _, rfl, qI ?_ q⟩
      split <;> omega
    | false =>
      rw [hw, if_neg Bool.false_ne_true] at q
      exact iteF ⟨_, rfl, a, C, dx, _, _, rfl, ha, T.cl, T.told, ff_told l f, q⟩
abbrev s_can_be_told : Stmt := inClass (top 33) 2
theorem sc_can_be_told : FnScope ["self"] ["self"] (defScope s_can_be_told) := ⟨rfl, rfl, rfl, by decide +kernel, rfl, by decide +kernel, by decide +kernel⟩

def sp_can (C : Addr) : Sp := fun vs H Q _ => ∃ (a l : Addr) (f : Km357.Flow), vs = [.ref a] ∧ FlAt C H a l f ∧ Q (.bl (NM.canTell f)) H
theorem ok_can_be_told {f : Addr} {fd : FuncData} (T : ClsF K C) (X : Txt mg) (Fn : Fun K "can_be_told" "Flow.can_be_told" s_can_be_told f fd) : FnOk P w K mg base CX0 1 f fd ["self"] (sp_can C) := by
  have TT := X
  refine Fn.ok sc_can_be_told (fun vs H Q E h => ?_) (fun cdv A outer s H vs Q E hr h => ?_)
  · obtain ⟨a, l, f, rfl, _⟩ := h
    rfl
  · obtain ⟨a, l, f, rfl, ⟨⟨dx, ha⟩, _⟩, q⟩ := h
    have nT := T
    have T := X
    refine ⟨_, (pss_one (ps_ret (pe_and (pe_not (pe_fld (pv 0) (by rfl))) (pe_one (pe_cmpR op_ltN (pe_fld (pv 0) (by rfl)) (pe_num T.LAST_NUMBER rfl) (nomark _)))))), ?_⟩
    refine ⟨_, rfl, a, C, dx, _, _, rfl, ha, nT.cl, nT.waits, ff_waits l f, f.waits, rfl, !f.waits, rfl, ?_⟩
    unfold NM.canTell at q
    cases hw : f.waits with
    | true =>
      rw [hw] at q
      exact iteF q
    | false =>
      rw [hw] at q
      exact iteT ⟨_, rfl, a, C, dx, _, _, rfl, ha, nT.cl, nT.number, ff_number l f, _, 4294967295, rfl, rfl, q⟩

/-! ### tell -/
abbrev s_tell : Stmt := inClass (top 33) 3
theorem sc_tell : FnScope ["self", "share"] ["self", "share"] (defScope s_tell) := ⟨rfl, rfl, rfl, by decide +kernel, rfl, by decide +kernel, by decide +kernel⟩

def sp_tell (C : Addr) : Sp := fun vs H Q _ => ∃ (a l : Addr) (f : Km357.Flow) (x : Nat), vs = [.ref a, .int (x : Int)] ∧ FlAt C H a l f ∧
  ∀ H' : Hp, FlAt C H' a l (NM.told1 f x) → (∀ b o, H b = some o → b ≠ a → H' b = some o) → Q .non H'
theorem ok_tell {f : Addr} {fd : FuncData} (T : ClsF K C) (Fn : Fun K "tell" "Flow.tell" s_tell f fd) : FnOk P w K mg base CX0 1 f fd ["self", "share"] (sp_tell C) := by
  refine Fn.ok sc_tell (fun vs H Q E h => ?_) (fun cdv A outer s H vs Q E hr h => ?_)
  · obtain ⟨a, l, f, x, rfl, _⟩ := h
    rfl
  · obtain ⟨a, l, f, x, rfl, F, k⟩ := h
    obtain ⟨dx, ha⟩ := F.ins
    refine ⟨_, (pss_cons (ps_fld (pv 0) (pe_fld (pv 0) (by rfl)) (by rfl)) (pss_cons (ps_fld (pv 0) (pv 1) (by rfl)) (pss_cons (ps_fld (pv 0) (pe_op op_addN (pe_fld (pv 0) (by rfl)) pe_int) (by rfl)) (pss_one (ps_fld (pv 0) pe_bl (by rfl)))))), ?_⟩
    refine ⟨_, rfl, a, C, dx, _, _, rfl, ha, T.cl, T.told, ff_told l f, _, rfl, a, C, dx, _, rfl, ha, T.cl, T.before, (by show 6 < 1000; decide), ?_⟩
    rw [ff_putBefore]
    refine ⟨_, rfl, _, rfl, a, C, dx, _, rfl, upd_same, T.cl, T.told, (by show 6 < 1000; decide), ?_⟩
    rw [ff_putTold]
    refine ⟨_, rfl, a, C, dx, _, _, rfl, upd_same, T.cl, T.number, ff_number l _, _, 1, rfl, rfl, _, rfl, a, C, dx, _, rfl, upd_same, T.cl, T.number, (by show 6 < 1000; decide), ?_⟩
    rw [ff_putNumber]
    refine ⟨_, rfl, a, C, dx, _, rfl, upd_same, T.cl, T.waits, (by show 6 < 1000; decide), ?_⟩
    rw [ff_putWaits, upd_upd, upd_upd, upd_upd]
    refine k _ ⟨⟨dx, upd_same⟩, ?_⟩ fun b o e hb => ?_
    · rw [upd_ne F.ne]
      exact F.lin
    · rw [upd_ne hb]
      exact e
end
end NB
set_option Elab.async false
set_option linter.all false
set_option maxRecDepth 100000
set_option maxHeartbeats 2000000
namespace NB
open PySem PySem.Spec PyProof.Rows L2
/-- the list at fl holds the flows fs, at the addresses as (each with its lines' list) -/
structure Flows (C : Addr) (H : Hp) (fl : Addr) (as : List (Addr × Addr)) (fs : List Km357.Flow) : Prop where
  lst : H fl = some (.lst (as.map fun p => V.ref p.1))
  len : as.length = fs.length
  nd : (as.map (·.1)).Nodup
  at_ : ∀ (j : Nat) (p : Addr × Addr) (f : Km357.Flow), as[j]? = some p → fs[j]? = some f → FlAt C H p.1 p.2 f
theorem FlAt.same {C : Addr} {H H' : Hp} {a l : Addr} {f : Km357.Flow} (F : FlAt C H a l f) (s : Same H H') : FlAt C H' a l f := by
  obtain ⟨⟨dx, e⟩, h⟩ := F
  exact ⟨⟨dx, s _ _ e⟩, s _ _ h⟩
theorem Flows.same {C : Addr} {H H' : Hp} {fl : Addr} {as : List (Addr × Addr)} {fs : List Km357.Flow} (F : Flows C H fl as fs) (s : Same H H') : Flows C H' fl as fs :=
  ⟨s _ _ F.lst, F.len, F.nd, fun j p f h1 h2 => (F.at_ j p f h1 h2).same s⟩
/-- the flow with a number, where it stands -/
theorem Flows.get {C : Addr} {H : Hp} {fl : Addr} {as : List (Addr × Addr)} {fs : List Km357.Flow} (F : Flows C H fl as fs) {j : Nat} {f : Km357.Flow} (h : fs[j]? = some f) :
    ∃ a l, as[j]? = some (a, l) ∧ atI (as.map fun p => V.ref p.1) (j : Int) = some (.ref a) ∧ FlAt C H a l f := by
  have hj : j < as.length := by
    rw [F.len]
    exact (List.getElem?_eq_some_iff.mp h).1
  have e := List.getElem?_eq_getElem hj
  refine ⟨_, _, e, atI_nat ?_, F.at_ j _ f e h⟩
  rw [List.getElem?_map, e]
  rfl
theorem ixN_nat {n j : Nat} (h : j < n) : ixN n (j : Int) = some j := by
  unfold ixN
  rw [if_pos (Int.natCast_nonneg j), if_pos (by omega), Int.toNat_natCast]
section
variable {P : Program} {w : World} {K : PySem.W.Frag} {mg : Str → Option Value} {base : Heap} {C : Addr}

/-! ### has_room -/
abbrev s_has_room : Stmt := top 34
theorem sc_has_room : FnScope ["left", "lines", "line"] ["left", "lines"] (defScope s_has_room) := ⟨rfl, rfl, rfl, by decide +kernel, rfl, by decide +kernel, by decide +kernel⟩

def sp_room (K : PySem.W.Frag) : Sp := fun vs H Q _ => ∃ (a b : Addr) (room : List Nat) (p : Nat), vs = [.ref a, .ref b] ∧ SqL K H a (vN room) ∧ SqL K H b (vN (NM.bitsOf p)) ∧ p < 2 ^ room.length ∧ room.length ≤ 16 ∧ Q (.bl (Km357.hasRoom room p)) H
theorem ok_has_room {f : Addr} {fd : FuncData} (Fn : Fun K "has_room" "has_room" s_has_room f fd) : FnOk P w K mg base CX0 1 f fd ["left", "lines"] (sp_room K) := by
  refine Fn.ok sc_has_room (fun vs H Q E h => ?_) (fun cdv A outer s H vs Q E hr h => ?_)
  · obtain ⟨a, b, room, p, rfl, _⟩ := h
    rfl
  · obtain ⟨a, b, room, p, rfl, hA, hB, hp, hl, q⟩ := h
    refine ⟨_, (pss_cons (ps_for PassesOwn.never rfl (pi_list (pv 1)) (pg_name (i := 2) sc_has_room.nd rfl (Or.inl rfl)) (pss_one (ps_if (pt_cmpR op_eqN (pe_ix ix_list (pv 0) (pv 2) (fun _ _ => rfl)) pe_int (nomark _)) (pss_one (ps_ret pe_bl)) pss_nil))) (pss_one (ps_ret pe_bl))), ?_⟩
    refine ⟨_, rfl, b, rfl, ⟨_, hB⟩, for_list (K := K) (a := b) (xs := vN (NM.bitsOf p)) (fun i σ H' => H' = H ∧ (∃ v2, σ = [some (.ref a), some (.ref b), v2]) ∧ ∀ j k, j < i → (NM.bitsOf p)[j]? = some k → Km357.at_ room k ≠ 0)
      ⟨rfl, ⟨_, rfl⟩, fun j k h => absurd h (Nat.not_lt_zero _)⟩ (fun i σ H' _ z => by rw [z.1]; exact hB) ?_ ?_⟩
    · rintro i x σ H' hi ⟨rfl, ⟨v2, rfl⟩, hz⟩
      obtain ⟨k, hk, rfl⟩ := vN_of hi
      have mk := List.mem_of_getElem? hk
      refine ⟨_, rfl, _, rfl, a, _, _, _, rfl, rfl, hA, atN (NM.bitsOf_lt hp mk), _, 0, rfl, rfl, _, rfl, ?_⟩
      refine iteD (fun c => ?_) (fun c => ?_)
      · rw [NM.hasRoom_false hp mk c] at q
        exact q
      · refine ⟨rfl, ⟨_, rfl⟩, fun j k' hj hk' => ?_⟩
        by_cases e : j = i
        · subst e
          rw [hk] at hk'
          cases hk'
          exact c
        · exact hz j k' (by omega) hk'
    · rintro σ H' ⟨rfl, ⟨v2, rfl⟩, hz⟩
      have e : Km357.hasRoom room p = true := (NM.hasRoom_bits hp hl).mpr fun k mk => by
        obtain ⟨j, hj⟩ := List.mem_iff_getElem?.mp mk
        exact hz j k (by rw [vN_length]; exact (List.getElem?_eq_some_iff.mp hj).1) hj
      rw [e] at q
      exact q

/-! ### give_round -/
abbrev s_give_round : Stmt := top 35
theorem sc_give_round : FnScope ["left", "flows", "shares", "given", "k", "line"] ["left", "flows", "shares"] (defScope s_give_round) := ⟨rfl, rfl, rfl, by decide +kernel, rfl, by decide +kernel, by decide +kernel⟩

/-- what give_round and its callers know of the room and the wishes -/
structure Fit (n : Nat) (ws : List Km357.Wish) : Prop where
  n16 : n ≤ 16
  p2 : ∀ w ∈ ws, w.path < 2 ^ n
  m200 : ∀ w ∈ ws, w.most ≤ 200
theorem wish_at {fs : List Km357.Flow} {k : Nat} {f : Km357.Flow} (h : fs[k]? = some f) : (fs.map Km357.Flow.wish).getD k ⟨0, 0⟩ = f.wish := by
  rw [List.getD_eq_getElem?_getD, List.getElem?_map, h]
  rfl
def sp_give (C : Addr) : Sp := fun vs H Q _ => ∃ (L fl S : Addr) (as : List (Addr × Addr)) (fs : List Km357.Flow) (s : NM.SS) (H0 : Hp), vs = [.ref L, .ref fl, .ref S] ∧ Flows C H0 fl as fs ∧ Same H0 H ∧ H0 L = none ∧ H0 S = none ∧ L ≠ S ∧
  H L = some (.lst (vN s.1)) ∧ H S = some (.lst (vN s.2)) ∧ s.2.length = fs.length ∧ Fit s.1.length (fs.map Km357.Flow.wish) ∧ fs.length ≤ 16 ∧
  ∀ H' : Hp, H' L = some (.lst (vN (Km357.round (fs.map Km357.Flow.wish) s).1)) → H' S = some (.lst (vN (Km357.round (fs.map Km357.Flow.wish) s).2)) → Same H0 H' →
    Q (.bl (decide (Km357.round (fs.map Km357.Flow.wish) s ≠ s))) H'
theorem ok_give_round {f : Addr} {fd : FuncData} (T : ClsF K C) (B : Blt mg) (Fn : Fun K "give_round" "give_round" s_give_round f fd)
    (h_has_room : Has P w K mg base "has_room" 1 ["left", "lines"] (sp_room K)) : FnOk P w K mg base CX0 2 f fd ["left", "flows", "shares"] (sp_give C) := by
  refine Fn.ok sc_give_round (fun vs H Q E h => ?_) (fun cdv A outer s H vs Q E hr h => ?_)
  · obtain ⟨L, fl, S, as, fs, s, H0, rfl, _⟩ := h
    rfl
  · obtain ⟨L, fl, S, as, fs, s, H0, rfl, F, sm, nL, nS, hLS, hL, hS, l2, fit, f16, q⟩ := h
    refine ⟨_, (pss_cons (ps_set (i := 3) sc_give_round.nd rfl (Or.inl rfl) pe_bl) (pss_cons (ps_for PassesOwn.never rfl (pi_range1 rfl B.range (pa_cons (pe_callB call_len_seq (by rfl) B.len PySem.boot_len (pa_cons (pv 1) pa_nil)) pa_nil)) (pg_name (i := 4) sc_give_round.nd rfl (Or.inl rfl)) (pss_one (ps_if (PW.pt (pw_and (pt_cmpR op_ltN (pe_ix ix_list (pv 2) (pv 4) (fun _ _ => rfl)) (pe_fld (pe_ix ix_list (pv 1) (pv 4) (fun _ _ => rfl)) (by rfl)) (nomark _)) (pw_and1 (pt_truth (pe_has h_has_room hr (by decide) rfl (pa_cons (pv 0) (pa_cons (pe_fld (pe_ix ix_list (pv 1) (pv 4) (fun _ _ => rfl)) (by rfl)) pa_nil))) (fun _ => rfl))))) (pss_cons (ps_asg (pe_op op_addN (pe_ix ix_list (pv 2) (pv 4) (fun _ _ => rfl)) pe_int) (pg_sub (pv 2) (pv 4) set_list)) (pss_cons (ps_for PassesOwn.never rfl (pi_list (pe_fld (pe_ix ix_list (pv 1) (pv 4) (fun _ _ => rfl)) (by rfl))) (pg_name (i := 5) sc_give_round.nd rfl (Or.inl rfl)) (pss_one (ps_asg (pe_op op_subN (pe_ix ix_list (pv 0) (pv 5) (fun _ _ => rfl)) pe_int) (pg_sub (pv 0) (pv 5) set_list)))) (pss_one (ps_set (i := 3) sc_give_round.nd rfl (Or.inl rfl) pe_bl)))) pss_nil))) (pss_one (ps_ret (pv 3))))), ?_⟩
    have elen : (as.map fun p => V.ref p.1).length = fs.length := by rw [List.length_map, F.len]
    refine ⟨_, rfl, fl, _, rfl, .inl (SqL.of (sm _ _ F.lst)), _, rfl, by omega, by omega, ?_⟩
    rw [elen, Int.toNat_natCast]
    refine for_range (n := fs.length) (fun k σ H' => ∃ (g : Bool) (v4 v5 : Option V), σ = [some (.ref L), some (.ref fl), some (.ref S), some (.bl g), v4, v5] ∧ NM.Gave (fs.map Km357.Flow.wish) s k g ∧
        H' L = some (.lst (vN (NM.roundTo (fs.map Km357.Flow.wish) s k).1)) ∧ H' S = some (.lst (vN (NM.roundTo (fs.map Km357.Flow.wish) s k).2)) ∧ Same H0 H')
      ⟨false, none, none, rfl, NM.Gave.start _ _, hL, hS, sm⟩ ?_ ?_
    · rintro k σ H' hk ⟨g, v4, v5, rfl, gv, hL', hS', sm'⟩
      rw [Int.zero_add]
      obtain ⟨fk, hfk⟩ : ∃ fk, fs[k]? = some fk := ⟨_, List.getElem?_eq_getElem hk⟩
      have F' := F.same sm'
      obtain ⟨a, l, has, hat, Fa⟩ := F'.get hfk
      obtain ⟨dx, ha⟩ := Fa.ins
      have ew := wish_at hfk
      have mw : fk.wish ∈ fs.map Km357.Flow.wish := List.mem_map_of_mem (List.mem_of_getElem? hfk)
      have hk2 : k < (NM.roundTo (fs.map Km357.Flow.wish) s k).2.length := by rw [NM.roundTo_len2, l2]; exact hk
      have hp2 : fk.wish.path < 2 ^ (NM.roundTo (fs.map Km357.Flow.wish) s k).1.length := by rw [NM.roundTo_len1]; exact fit.p2 _ mw
      have h16 : (NM.roundTo (fs.map Km357.Flow.wish) s k).1.length ≤ 16 := by rw [NM.roundTo_len1]; exact fit.n16
      refine ⟨_, rfl, _, rfl, S, _, _, _, rfl, rfl, SqL.of hS', atN hk2, _, rfl, _, rfl, fl, _, _, _, rfl, rfl, SqL.of F'.lst, hat, a, C, dx, _, _, rfl, ha, T.cl, T.wish, ff_wish l fk, _, _, rfl, rfl, _, rfl, ?_⟩
      have skip : ∀ v4', ¬ (Km357.at_ (NM.roundTo (fs.map Km357.Flow.wish) s k).2 k < fk.wish.most ∧ Km357.hasRoom (NM.roundTo (fs.map Km357.Flow.wish) s k).1 fk.wish.path = true) →
          ∃ (g' : Bool) (v4 v5' : Option V), ([some (.ref L), some (.ref fl), some (.ref S), some (.bl g), v4', v5] : L2.St) = [some (.ref L), some (.ref fl), some (.ref S), some (.bl g'), v4, v5'] ∧ NM.Gave (fs.map Km357.Flow.wish) s (k + 1) g' ∧
          H' L = some (.lst (vN (NM.roundTo (fs.map Km357.Flow.wish) s (k + 1)).1)) ∧ H' S = some (.lst (vN (NM.roundTo (fs.map Km357.Flow.wish) s (k + 1)).2)) ∧ Same H0 H' := fun v4' c => by
        have e := NM.stepF_neg (w := fs.map Km357.Flow.wish) (s := NM.roundTo (fs.map Km357.Flow.wish) s k) (i := k) (by rw [ew]; exact c)
        refine ⟨g, v4', v5, rfl, gv.skip e, ?_, ?_, sm'⟩
        · rw [NM.roundTo_succ, e]
          exact hL'
        · rw [NM.roundTo_succ, e]
          exact hS'
      refine iteD (fun c1 => ?_) (fun c1 => ?_)
      · refine ⟨_, rfl, _, rfl, _, rfl, fl, _, _, _, rfl, rfl, SqL.of F'.lst, hat, a, C, dx, _, _, rfl, ha, T.cl, T.lines, ff_lines l fk, L, l, _, fk.wish.path, rfl, SqL.of hL', SqL.of Fa.lin, hp2, h16, _, rfl, ?_⟩
        cases c2 : Km357.hasRoom (NM.roundTo (fs.map Km357.Flow.wish) s k).1 fk.wish.path with
        | false => exact skip _ fun c => by rw [c2] at c; cases c.2
        | true =>
          have room := (NM.hasRoom_bits hp2 h16).mp c2
          have yes := NM.stepF_pos (w := fs.map Km357.Flow.wish) (s := NM.roundTo (fs.map Km357.Flow.wish) s k) (i := k) (by rw [ew]; exact ⟨c1, c2⟩)
          have gv' := gv.give (by rw [l2]; exact hk) (by rw [ew]; exact ⟨c1, c2⟩)
          rw [ew, NM.takeOne_decs hp2 h16] at yes
          rw [← NM.roundTo_succ] at yes
          have y1 : (NM.roundTo (fs.map Km357.Flow.wish) s (k + 1)).1 = (NM.bitsOf fk.wish.path).foldl NM.dec (NM.roundTo (fs.map Km357.Flow.wish) s k).1 := by rw [yes]
          have y2 : (NM.roundTo (fs.map Km357.Flow.wish) s (k + 1)).2 = (NM.roundTo (fs.map Km357.Flow.wish) s k).2.set k (Km357.at_ (NM.roundTo (fs.map Km357.Flow.wish) s k).2 k + 1) := by rw [yes]
          rw [y1, y2]
          generalize NM.roundTo (fs.map Km357.Flow.wish) s k = r at *
          have lt1 : ∀ j ∈ NM.bitsOf fk.wish.path, j < r.1.length := fun j hj => NM.bitsOf_lt hp2 hj
          refine iteT ?_
          refine ⟨_, rfl, _, rfl, S, _, _, _, rfl, rfl, SqL.of hS', atN hk2, _, 1, rfl, rfl, _, rfl, _, rfl, S, _, _, k, rfl, rfl, hS', ixN_nat (by rw [vN_length]; exact hk2), ?_⟩
          have hS1 : (upd H' S (.lst ((vN r.2).set k (V.int ((Km357.at_ r.2 k + 1 : Nat) : Int))))) S = some (.lst (vN (r.2.set k (Km357.at_ r.2 k + 1)))) := by rw [upd_same, vN_set]
          have hL1 : (upd H' S (.lst ((vN r.2).set k (V.int ((Km357.at_ r.2 k + 1 : Nat) : Int))))) L = some (.lst (vN r.1)) := by rw [upd_ne hLS]; exact hL'
          have sm1 : Same H0 (upd H' S (.lst ((vN r.2).set k (V.int ((Km357.at_ r.2 k + 1 : Nat) : Int))))) := fun b o e => by
            rw [upd_ne (ne_of_none e nS)]
            exact sm' b o e
          have F1 := F.same sm1
          have Fa1 := F1.at_ k _ fk has hfk
          obtain ⟨dx1, ha1⟩ := Fa1.ins
          refine ⟨_, rfl, _, rfl, fl, _, _, _, rfl, rfl, SqL.of F1.lst, hat, a, C, dx1, _, _, rfl, ha1, T.cl, T.lines, ff_lines l fk, l, rfl, ⟨_, SqL.of Fa1.lin⟩,
            for_list (K := K) (a := l) (xs := vN (NM.bitsOf fk.wish.path)) (fun i σ H'' => ∃ v5, σ = [some (.ref L), some (.ref fl), some (.ref S), some (.bl g), some (.int (k : Int)), v5] ∧
              H'' L = some (.lst (vN (((NM.bitsOf fk.wish.path).take i).foldl NM.dec r.1))) ∧ H'' S = some (.lst (vN (r.2.set k (Km357.at_ r.2 k + 1)))) ∧ Same H0 H'')
            ⟨v5, rfl, hL1, hS1, sm1⟩ (fun i σ H'' _ ⟨_, _, _, _, s2⟩ => SqL.of ((F.same s2).at_ k _ fk has hfk).lin) ?_ ?_⟩
          · rintro i x σ H'' hi ⟨v5', rfl, hL2, hS2, sm2⟩
            obtain ⟨j, hj, rfl⟩ := vN_of hi
            have mj := List.mem_of_getElem? hj
            have lj := lt1 j mj
            have nj : ¬ j ∈ (NM.bitsOf fk.wish.path).take i := fun m => by
              obtain ⟨i', hi'⟩ := List.mem_iff_getElem?.mp m
              have lt := (List.getElem?_eq_some_iff.mp hi').1
              rw [List.length_take] at lt
              rw [List.getElem?_take_of_lt (by omega)] at hi'
              have e := nd_ix (NM.bitsOf_nodup fk.wish.path) hi' hj
              omega
            have ecur : Km357.at_ (((NM.bitsOf fk.wish.path).take i).foldl NM.dec r.1) j = Km357.at_ r.1 j := by
              rw [NM.decs_at _ _ (List.Nodup.sublist (List.take_sublist _ _) (NM.bitsOf_nodup _)) (fun j hj => lt1 j (List.mem_of_mem_take hj)), if_neg nj]
            have lcur : j < (((NM.bitsOf fk.wish.path).take i).foldl NM.dec r.1).length := by rw [NM.decs_length]; exact lj
            have pos : 1 ≤ Km357.at_ (((NM.bitsOf fk.wish.path).take i).foldl NM.dec r.1) j := by
              rw [ecur]
              have := room j mj
              omega
            refine ⟨_, rfl, _, rfl, L, _, _, _, rfl, rfl, SqL.of hL2, atN lcur, _, 1, rfl, rfl, pos, _, rfl, _, rfl, L, _, _, j, rfl, rfl, hL2, ixN_nat (by rw [vN_length]; exact lcur), ?_⟩
            refine ⟨_, rfl, ?_, ?_, ?_⟩
            · rw [upd_same, NM.take_snoc hj, List.foldl_append]
              exact congrArg (fun z => some (HO.lst z)) (vN_set _ _ _)
            · rw [upd_ne hLS.symm]
              exact hS2
            · intro b o e
              rw [upd_ne (ne_of_none e nL)]
              exact sm2 b o e
          · rintro σ H'' ⟨v5', rfl, hL2, hS2, sm2⟩
            rw [vN_length, List.take_length] at hL2
            exact ⟨true, _, _, rfl, gv', hL2, hS2, sm2⟩
      · exact skip _ fun c => c1 c.1
    · rintro σ H' ⟨g, v4, v5, rfl, gv, hL', hS', sm'⟩
      have gd := NM.Gave.done (w := fs.map Km357.Flow.wish) (s := s) (b := g) (by rw [List.length_map]; exact gv)
      have re : NM.roundTo (fs.map Km357.Flow.wish) s fs.length = Km357.round (fs.map Km357.Flow.wish) s := by rw [NM.round_eq, List.length_map]
      rw [re] at hL' hS'
      have z := q H' hL' hS' sm'
      rw [← gd] at z
      exact ⟨_, rfl, z⟩
end
end NB
set_option Elab.async false
set_option linter.all false
set_option maxRecDepth 100000
set_option maxHeartbeats 2000000
namespace NB
open PySem PySem.Spec PyProof.Rows L2
section
variable {P : Program} {w : World} {K : PySem.W.Frag} {mg : Str → Option Value} {base : Heap} {C : Addr}
theorem vN_rep (n : Nat) : List.replicate n (V.int 0) = vN (List.replicate n 0) := by
  unfold vN
  rw [List.map_replicate]
  rfl
theorem map_zero {α : Type} (l : List α) : l.map (fun _ => 0) = List.replicate l.length 0 := List.map_const ..

/-! ### fair_shares -/
abbrev s_fair_shares : Stmt := top 36
theorem sc_fair_shares : FnScope ["room", "flows", "left", "shares", "flow"] ["room", "flows"] (defScope s_fair_shares) := ⟨rfl, rfl, rfl, by decide +kernel, rfl, by decide +kernel, by decide +kernel⟩

def sp_fair (K : PySem.W.Frag) (C : Addr) : Sp := fun vs H Q _ => ∃ (rm fl : Addr) (as : List (Addr × Addr)) (room : List Nat) (fs : List Km357.Flow), vs = [.ref rm, .ref fl] ∧ SqL K H rm (vN room) ∧ Flows C H fl as fs ∧ NM.Ok room (fs.map Km357.Flow.wish) ∧
  ∀ (H' : Hp) (S : Addr), H S = none → H' S = some (.lst (vN (Km357.shares room (fs.map Km357.Flow.wish)))) → Same H H' → Q (.ref S) H'
theorem ok_fair_shares {f : Addr} {fd : FuncData} (B : Blt mg) (Fn : Fun K "fair_shares" "fair_shares" s_fair_shares f fd)
    (h_give_round : Has P w K mg base "give_round" 2 ["left", "flows", "shares"] (sp_give C)) : FnOk P w K mg base CX0 3 f fd ["room", "flows"] (sp_fair K C) := by
  refine Fn.ok sc_fair_shares (fun vs H Q E h => ?_) (fun cdv A outer s H vs Q E hr h => ?_)
  · obtain ⟨rm, fl, as, room, fs, rfl, _⟩ := h
    rfl
  · obtain ⟨rm, fl, as, room, fs, rfl, hR, F, ok, k⟩ := h
    refine ⟨_, (pss_cons (ps_set (i := 2) sc_fair_shares.nd rfl (Or.inl rfl) (pe_callTy call_list_of (by rfl) B.list boot_list (pa_cons (pv 0) pa_nil))) (pss_cons (ps_setLc (i := 3) rfl sc_fair_shares.nd rfl rfl (sw_true rfl rfl rfl rfl) (pi_list (pv 1)) (blkOk_by (own := [("flow", 4)]) (show blkC ["room", "flows", "left", "shares", "flow"] (defScope s_fair_shares) _ _ = true by decide +kernel)) (fun _ _ _ _ _ => pg_name (i := 4) sc_fair_shares.nd rfl (Or.inl rfl)) (fun _ _ _ _ _ => pts_nil) (fun _ _ _ _ _ => pe_int)) (pss_cons (ps_while PassesOwn.never (pt_truth (pe_has h_give_round hr (by decide) rfl (pa_cons (pv 2) (pa_cons (pv 1) (pa_cons (pv 3) pa_nil)))) (fun _ => rfl)) (pss_one ps_pass)) (pss_one (ps_ret (pv 3)))))), ?_⟩
    have f16 : fs.length ≤ 16 := by
      have e := ok.w16
      rw [List.length_map] at e
      exact e
    have elen : (as.map fun p => V.ref p.1).length = fs.length := by rw [List.length_map, F.len]
    refine ⟨_, rfl, rm, _, rfl, .inl hR, fun L nL => ?_⟩
    have sL : Same H (upd H L (.lst (vN room))) := Same.upd nL
    refine ⟨_, rfl, fl, rfl, ⟨_, SqL.of (sL _ _ F.lst)⟩, fun S nS => ?_⟩
    have hLS : L ≠ S := fun e => by
      rw [← e, upd_same] at nS
      cases nS
    have nS0 : H S = none := sL.free nS
    refine lc_list (K := K) (a := fl) (xs := as.map fun p => V.ref p.1) (fun i H' => H' S = some (.lst (List.replicate i (.int 0))) ∧ Same (upd H L (.lst (vN room))) H') ⟨upd_same, Same.upd nS⟩ (fun i H' _ p => SqL.of (p.2 _ _ (sL _ _ F.lst))) ?_ ?_
    · rintro i x H' hi ⟨p1, p2⟩
      have li := (List.getElem?_eq_some_iff.mp hi).1
      rw [elen] at li
      refine ⟨rfl, _, p1, ?_, ?_, ?_⟩
      · rw [List.length_replicate]
        exact Nat.lt_of_lt_of_le li (Nat.le_trans f16 (by decide))
      · rw [upd_same, List.replicate_succ']
      · intro b o e
        rw [upd_ne (ne_of_none e nS)]
        exact p2 b o e
    · rintro H1 ⟨p1, p2⟩
      rw [elen, vN_rep] at p1
      have z0 : (fs.map Km357.Flow.wish).map (fun _ => 0) = List.replicate fs.length 0 := by rw [map_zero, List.length_map]
      rw [← z0] at p1
      have hL1 : H1 L = some (.lst (vN room)) := p2 _ _ upd_same
      have sm1 : Same H H1 := sL.trans p2
      refine ⟨fun m σ H' => σ = [some (.ref rm), some (.ref fl), some (.ref L), some (.ref S), none] ∧ ∃ s : NM.SS, NM.Loop room (fs.map Km357.Flow.wish) m s ∧ H' L = some (.lst (vN s.1)) ∧ H' S = some (.lst (vN s.2)) ∧ Same H H',
        ⟨200, rfl, _, NM.Loop.start room _, hL1, p1, sm1⟩, ?_⟩
      rintro m σ H' ⟨rfl, s, lp, hL', hS', sm'⟩
      have l2 := lp.l2
      rw [List.length_map] at l2
      refine ⟨_, rfl, _, rfl, _, rfl, L, fl, S, as, fs, s, H, rfl, F, sm', nL, nS0, hLS, hL', hS', l2, ⟨by rw [lp.l1]; exact ok.r16, fun v hv => by rw [lp.l1]; exact ok.p2 v hv, ok.m200⟩, f16, fun H2 h1 h2 sm2 => ⟨_, rfl, ?_⟩⟩
      refine iteD (fun c => ?_) (fun c => ?_)
      · have hw : ∀ i, i < (fs.map Km357.Flow.wish).length → ((fs.map Km357.Flow.wish).getD i ⟨0, 0⟩).most ≤ 200 := fun i hi => by
          rw [List.getD_eq_getElem?_getD, List.getElem?_eq_getElem hi]
          exact ok.m200 _ (List.getElem_mem hi)
        obtain ⟨m', rfl, lp'⟩ := lp.go hw c
        exact ⟨_, fun σ' H' h => ⟨m', Nat.lt_succ_self _, h⟩, rfl, _, lp', h1, h2, sm2⟩
      · have e : Km357.round (fs.map Km357.Flow.wish) s = s := Classical.not_not.mp c
        rw [e, lp.stop e] at h2
        exact ⟨_, rfl, k H2 S nS0 h2 sm2⟩
end
end NB
set_option Elab.async false
set_option linter.all false
set_option maxRecDepth 100000
set_option maxHeartbeats 2000000
namespace NB
open PySem PySem.Spec PyProof.Rows L2
section
variable {X : Cx} {K : PySem.W.Frag} {e : Expr} {ta : TE} {f : Str} {pos : Pos}
theorem pe_fldK (hK : X.K = K) (he : PE X e ta) (hb : attributeBase e f X.env (eval e X.env) = eval e X.env) : PE X (.Attribute e f pos) (tFld K ta f) := by
  subst hK
  exact pe_fld he hb
theorem op_in_seqK (hK : X.K = K) : OpR X (compareOp .In) (rIn K false) := by
  subst hK
  exact op_in_seq
end
/-! ### the net -/
def nf (rm fl : Addr) : List (Str × V) := [("room", .ref rm), ("flows", .ref fl)]
theorem nf_room (rm fl : Addr) : (nf rm fl).lookup ("room" : Str) = some (V.ref rm) := lk_hd
theorem nf_flows (rm fl : Addr) : (nf rm fl).lookup ("flows" : Str) = some (V.ref fl) := (lk_tl (by decide +kernel)).trans lk_hd
theorem nf_no (rm fl : Addr) {m : Str} (h1 : (m == "room") = false) (h2 : (m == "flows") = false) : (nf rm fl).lookup m = none := by
  unfold nf
  rw [lk_tl h1, lk_tl h2]
  rfl
theorem nf_putRoom (rm fl x : Addr) : putF "room" (.ref x) (nf rm fl) = nf x fl := by
  unfold nf
  rw [pf_hd]
theorem nf_putFlows (rm fl x : Addr) : putF "flows" (.ref x) (nf rm fl) = nf rm x := by
  unfold nf
  rw [pf_tl (by decide +kernel), pf_hd]
/-- the class Net -/
structure ClsN (K : PySem.W.Frag) (C : Addr) : Prop where
  cl : Cls K C
  room : NoAttr K C "room"
  flows : NoAttr K C "flows"
/-- the net stands at a -/
structure NetAt (C CN : Addr) (H : Hp) (a rm fl : Addr) (as : List (Addr × Addr)) (n : Km357.Net) : Prop where
  ins : ∃ dx, H a = some (.ins CN dx (nf rm fl))
  room : H rm = some (.lst (vN n.room))
  flows : Flows C H fl as n.flows
  ne : rm ≠ fl
  nl : ∀ p ∈ as, p.2 ≠ fl
  ok : NM.NetOk n
theorem NetAt.same {C CN : Addr} {H H' : Hp} {a rm fl : Addr} {as : List (Addr × Addr)} {n : Km357.Net} (N : NetAt C CN H a rm fl as n) (s : Same H H') : NetAt C CN H' a rm fl as n := by
  obtain ⟨dx, e⟩ := N.ins
  exact ⟨⟨dx, s _ _ e⟩, s _ _ N.room, N.flows.same s, N.ne, N.nl, N.ok⟩
/-- one flow is changed -/
theorem NetAt.put {C CN : Addr} {H H' : Hp} {a rm fl : Addr} {as : List (Addr × Addr)} {n : Km357.Net} (hC : C ≠ CN) (N : NetAt C CN H a rm fl as n) {i : Nat} {b l : Addr} {f g : Km357.Flow} (hi : as[i]? = some (b, l)) (hf : n.flows[i]? = some f)
    (hg : FlAt C H' b l g) (hp : g.wish.path = f.wish.path) (hm : g.wish.most ≤ 200) (kp : ∀ c o, H c = some o → c ≠ b → H' c = some o) : NetAt C CN H' a rm fl as (NM.put n i g) := by
  obtain ⟨dx, e⟩ := N.ins
  have Fb := N.flows.at_ i _ f hi hf
  obtain ⟨db, eb⟩ := Fb.ins
  have nab : a ≠ b := ne_of e eb (by intro q; injection q with q; exact hC q.symm)
  have nrb : rm ≠ b := ne_of N.room eb (by intro q; cases q)
  have nfb : fl ≠ b := ne_of N.flows.lst eb (by intro q; cases q)
  refine ⟨⟨dx, kp _ _ e nab⟩, kp _ _ N.room nrb, ⟨kp _ _ N.flows.lst nfb, ?_, N.flows.nd, ?_⟩, N.ne, N.nl, ?_⟩
  · show as.length = (n.flows.set i g).length
    rw [List.length_set]
    exact N.flows.len
  · intro j p f' hj hf'
    have hf' : (n.flows.set i g)[j]? = some f' := hf'
    by_cases e : j = i
    · subst e
      rw [hi] at hj
      cases hj
      rw [List.getElem?_set_self (List.getElem?_eq_some_iff.mp hf).1] at hf'
      cases hf'
      exact hg
    · rw [List.getElem?_set_ne (Ne.symm e)] at hf'
      obtain ⟨⟨d, e1⟩, e2⟩ := N.flows.at_ j p f' hj hf'
      have n1 : p.1 ≠ b := fun q => e (nd_ix N.flows.nd (i := j) (j := i) (x := b) (by rw [List.getElem?_map, hj, ← q]; rfl) (by rw [List.getElem?_map, hi]; rfl))
      have n2 : p.2 ≠ b := ne_of e2 eb (by intro q; cases q)
      exact ⟨⟨d, kp _ _ e1 n1⟩, kp _ _ e2 n2⟩
  · have ok := N.ok
    have mem : ∀ v, v ∈ (NM.put n i g).flows.map Km357.Flow.wish → v = g.wish ∨ v ∈ n.flows.map Km357.Flow.wish := fun v hv => by
      obtain ⟨x, hx, e⟩ := List.mem_map.mp hv
      rcases List.mem_or_eq_of_mem_set hx with q | q
      · exact .inr (e ▸ List.mem_map_of_mem q)
      · exact .inl (by rw [← e, q])
    have a1 := ok.at hf
    refine ⟨ok.r16, ok.r200, ?_, fun v hv => ?_, fun v hv => ?_, fun v hv => ?_⟩
    · have := ok.w16
      rw [List.length_map] at this
      rw [List.length_map]
      show (n.flows.set i g).length ≤ 16
      rw [List.length_set]
      exact this
    · rcases mem v hv with q | q
      · rw [q, hp]
        exact a1.1
      · exact ok.p0 v q
    · rcases mem v hv with q | q
      · rw [q, hp]
        exact a1.2.1
      · exact ok.p2 v q
    · rcases mem v hv with q | q
      · rw [q]
        exact hm
      · exact ok.m200 v q
section
variable {P : Program} {w : World} {K : PySem.W.Frag} {mg : Str → Option Value} {base : Heap} {C CN : Addr}
/-! ### spare_on -/
abbrev s_spare_on : Stmt := inClass (top 37) 9
theorem sc_spare_on : FnScope ["self", "line", "flow"] ["self", "line"] (defScope s_spare_on) := ⟨rfl, rfl, rfl, by decide +kernel, rfl, by decide +kernel, by decide +kernel⟩

def sp_spare (C CN : Addr) : Sp := fun vs H Q _ => ∃ (a rm fl : Addr) (as : List (Addr × Addr)) (n : Km357.Net) (k : Nat), vs = [.ref a, .int (k : Int)] ∧ NetAt C CN H a rm fl as n ∧ k < n.room.length ∧
  ∀ H' : Hp, Same H H' → Q (.int ((Km357.at_ n.room k : Int) - (NM.useOf n.flows k : Int))) H'
theorem in_bits (k p : Nat) (hk : k < 16) : inV (.int (k : Int)) (vN (NM.bitsOf p)) = p.testBit k := by
  unfold inV vN
  rw [List.any_map]
  cases e : p.testBit k with
  | true =>
    rw [List.any_eq_true]
    exact ⟨k, NM.mem_bitsOf.mpr ⟨hk, e⟩, by show ((k : Int) == (k : Int)) = true; exact beq_self_eq_true _⟩
  | false =>
    rw [List.any_eq_false]
    intro x hx q
    have q' : ((x : Int) == (k : Int)) = true := q
    have e' : x = k := by
      have := eq_of_beq q'
      omega
    subst e'
    rw [(NM.mem_bitsOf.mp hx).2] at e
    cases e
theorem flat_vN (l : List Nat) : (vN l).all flatV = true := by
  unfold vN
  rw [List.all_map, List.all_eq_true]
  intro x _
  rfl
theorem sum_cast : ∀ l : List Nat, (l.map fun (x : Nat) => (x : Int)).sum = ((l.sum : Nat) : Int)
  | [] => rfl
  | x :: l => by
    rw [List.map_cons, List.sum_cons, List.sum_cons, sum_cast l]
    omega
theorem ok_spare_on {f : Addr} {fd : FuncData} (T : ClsF K C) (TN : ClsN K CN) (B : Blt mg) (Fn : Fun K "spare_on" "Net.spare_on" s_spare_on f fd)
    (m_may_use : HasM P w K mg base C "may_use" 1 ["self"] (sp_use C)) : FnOk P w K mg base CX0 2 f fd ["self", "line"] (sp_spare C CN) := by
  refine Fn.ok sc_spare_on (fun vs H Q E h => ?_) (fun cdv A outer s H vs Q E hr h => ?_)
  · obtain ⟨a, rm, fl, as, n, k, rfl, _⟩ := h
    rfl
  · obtain ⟨a, rm, fl, as, n, k, rfl, N, hk, q⟩ := h
    obtain ⟨dx, ha⟩ := N.ins
    have elen : (as.map fun p => V.ref p.1).length = n.flows.length := by rw [List.length_map, N.flows.len]
    have f16 : n.flows.length ≤ 16 := by
      have e := N.ok.w16
      rw [List.length_map] at e
      exact e
    refine ⟨_, (pss_one (ps_ret (pe_op op_sub (pe_ix ix_list (pe_fld (pv 0) (by rfl)) (pv 1) (fun _ _ => rfl)) (pe_callB (cr_sum rfl) (by rfl) B.sum boot_sum (pa_cons (by exact (pe_lc rfl sc_spare_on.nd (pi_list (pe_fld (pv 0) (by rfl))) (blkOk_by (own := [("flow", 2)]) (show blkC ["self", "line", "flow"] (defScope s_spare_on) _ _ = true by decide +kernel)) (fun _ _ _ _ _ => pg_name (i := 2) sc_spare_on.nd rfl (Or.inl rfl)) (fun _ _ _ _ _ => pts_one (by exact (pt_cmpR (op_in_seqK (K := K) rfl) (pv 1) (pe_fldK (K := K) rfl (pv 2) (by rfl)) (by rfl)))) (fun _ _ _ _ _ => (by exact (pe_hasm0 m_may_use hr (by decide) (pv 2)))))) pa_nil))))), ?_⟩
    refine ⟨_, rfl, a, CN, dx, _, _, rfl, ha, TN.cl, TN.room, nf_room rm fl, _, rfl, rm, _, _, _, rfl, rfl, SqL.of N.room, atN hk, ?_⟩
    refine ⟨_, rfl, a, CN, dx, _, _, rfl, ha, TN.cl, TN.flows, nf_flows rm fl, fl, rfl, ⟨_, SqL.of N.flows.lst⟩, fun D hD => ?_⟩
    refine lc_list (K := K) (a := fl) (xs := as.map fun p => V.ref p.1) (fun i H' => H' D = some (.lst (vN (((n.flows.take i).filter fun f => f.wish.path.testBit k).map Km357.Flow.bound))) ∧ Same H H') ⟨upd_same, Same.upd hD⟩ (fun i H' _ p => SqL.of (p.2 _ _ N.flows.lst)) ?_ ?_
    · rintro i x H' hi ⟨p1, p2⟩
      obtain ⟨⟨b, l⟩, hb, rfl⟩ : ∃ p, as[i]? = some p ∧ x = V.ref p.1 := by
        rw [List.getElem?_map] at hi
        cases e : as[i]? with
        | none => rw [e] at hi; cases hi
        | some p => rw [e] at hi; exact ⟨p, rfl, (Option.some.inj hi).symm⟩
      have li := (List.getElem?_eq_some_iff.mp hi).1
      rw [elen] at li
      obtain ⟨f, hf⟩ : ∃ f, n.flows[i]? = some f := ⟨_, List.getElem?_eq_getElem li⟩
      have Fb := (N.flows.at_ i _ f hb hf).same p2
      obtain ⟨db, eb⟩ := Fb.ins
      have k16 : k < 16 := Nat.lt_of_lt_of_le hk N.ok.r16
      refine ⟨rfl, _, rfl, _, rfl, b, C, db, _, _, rfl, eb, T.cl, T.lines, ff_lines l f, l, _, rfl, .inl (SqL.of Fb.lin), rfl, flat_vN _, _, rfl, ?_⟩
      show if (inV (.int (k : Int)) (vN (NM.bitsOf f.wish.path))) = true then _ else _
      rw [in_bits k _ k16]
      cases hbit : f.wish.path.testBit k with
      | true =>
        refine iteT ⟨_, rfl, b, db, _, rfl, eb, ff_no l f (by decide +kernel) (by decide +kernel) (by decide +kernel) (by decide +kernel) (by decide +kernel) (by decide +kernel), b, l, f, rfl, Fb, _, p1, ?_, ?_, ?_⟩
        · rw [vN_length, List.length_map]
          refine Nat.lt_of_le_of_lt (List.length_filter_le _ _) ?_
          rw [List.length_take]
          exact Nat.lt_of_le_of_lt (Nat.min_le_right _ _) (Nat.lt_of_le_of_lt f16 (by decide))
        · rw [upd_same, NM.take_snoc hf, List.filter_append, List.map_append, vN_append]
          have e1 : List.filter (fun f : Km357.Flow => f.wish.path.testBit k) [f] = [f] := by
            rw [List.filter_cons, if_pos hbit]
            rfl
          rw [e1]
          rfl
        · intro c o e
          rw [upd_ne (ne_of_none e hD)]
          exact p2 c o e
      | false =>
        refine iteF ⟨?_, p2⟩
        rw [p1, NM.take_snoc hf, List.filter_append]
        have e1 : List.filter (fun f : Km357.Flow => f.wish.path.testBit k) [f] = [] := by
          rw [List.filter_cons, if_neg (by rw [hbit]; exact Bool.false_ne_true)]
          rfl
        rw [e1, List.append_nil]
    · rintro H' ⟨p1, p2⟩
      rw [elen, List.take_length, vN_ints] at p1
      refine ⟨D, _, rfl, SqL.of p1, _, _, rfl, rfl, ?_⟩
      have z := q H' p2
      unfold NM.useOf at z
      rw [← sum_cast] at z
      exact z
end
end NB
set_option Elab.async false
set_option linter.all false
set_option maxRecDepth 100000
set_option maxHeartbeats 2000000
namespace NB
open PySem PySem.Spec PyProof.Rows L2
section
variable {P : Program} {w : World} {K : PySem.W.Frag} {mg : Str → Option Value} {base : Heap} {C CN : Addr}
/-! ### raise_towards -/
abbrev s_raise_towards : Stmt := inClass (top 37) 8
theorem sc_raise_towards : FnScope ["self", "flow", "fair", "spare", "line"] ["self", "flow", "fair"] (defScope s_raise_towards) := ⟨rfl, rfl, rfl, by decide +kernel, rfl, by decide +kernel, by decide +kernel⟩

def raised (n : Km357.Net) (i : Nat) (f : Km357.Flow) (t : Nat) : Km357.Net := if 0 < n.spare i then NM.put n i (NM.told1 f (min t (f.told + n.spare i))) else n
def sp_raise (C CN : Addr) : Sp := fun vs H Q _ => ∃ (a rm fl : Addr) (as : List (Addr × Addr)) (n : Km357.Net) (i : Nat) (b l : Addr) (f : Km357.Flow) (t : Nat), vs = [.ref a, .ref b, .int (t : Int)] ∧ NetAt C CN H a rm fl as n ∧ as[i]? = some (b, l) ∧ n.flows[i]? = some f ∧
  ∀ H' : Hp, NetAt C CN H' a rm fl as (raised n i f t) → (∀ c o, H c = some o → c ≠ b → H' c = some o) → Q .non H'
theorem ok_raise_towards {f : Addr} {fd : FuncData} (hC : C ≠ CN) (T : ClsF K C) (TN : ClsN K CN) (B : Blt mg) (Fn : Fun K "raise_towards" "Net.raise_towards" s_raise_towards f fd)
    (m_spare_on : HasM P w K mg base CN "spare_on" 2 ["self", "line"] (sp_spare C CN)) (m_tell : HasM P w K mg base C "tell" 1 ["self", "share"] (sp_tell C)) : FnOk P w K mg base CX0 3 f fd ["self", "flow", "fair"] (sp_raise C CN) := by
  refine Fn.ok sc_raise_towards (fun vs H Q E h => ?_) (fun cdv A outer s H vs Q E hr h => ?_)
  · obtain ⟨a, rm, fl, as, n, i, b, l, f, t, rfl, _⟩ := h
    rfl
  · obtain ⟨a, rm, fl, as, n, i, b, l, f, t, rfl, N, hi, hf, q⟩ := h
    obtain ⟨dx, ha⟩ := N.ins
    have Fb := N.flows.at_ i _ f hi hf
    obtain ⟨db, eb⟩ := Fb.ins
    have wok := N.ok.at hf
    have mno : ∀ x, (ff l x).lookup ("tell" : Str) = none := fun x => ff_no l x (by decide +kernel) (by decide +kernel) (by decide +kernel) (by decide +kernel) (by decide +kernel) (by decide +kernel)
    refine ⟨_, (pss_cons (ps_set (i := 3) sc_raise_towards.nd rfl (Or.inl rfl) (pe_callB (cr_min rfl) (by rfl) B.min boot_min (pa_cons (by exact (pe_lc rfl sc_raise_towards.nd (pi_list (pe_fld (pv 1) (by rfl))) (blkOk_by (own := [("line", 4)]) (show blkC ["self", "flow", "fair", "spare", "line"] (defScope s_raise_towards) _ _ = true by decide +kernel)) (fun _ _ _ _ _ => pg_name (i := 4) sc_raise_towards.nd rfl (Or.inl rfl)) (fun _ _ _ _ _ => pts_nil) (fun _ _ _ _ _ => (by exact (pe_hasm m_spare_on hr (by decide) (pv 0) (pa_cons (pv 4) pa_nil)))))) pa_nil))) (pss_one (ps_if (pt_cmpR op_gt (pv 3) pe_int (nomark _)) (pss_one (ps_expr (pe_hasm m_tell hr (by decide) (pv 1) (pa_cons (pe_callB (call_min2 rfl) (by rfl) B.min boot_min (pa_cons (pe_op op_add (pe_fld (pv 1) (by rfl)) (pv 3)) (pa_cons (pv 2) pa_nil))) pa_nil)))) pss_nil))), ?_⟩
    refine ⟨_, rfl, b, C, db, _, _, rfl, eb, T.cl, T.lines, ff_lines l f, l, rfl, ⟨_, SqL.of Fb.lin⟩, fun D hD => ?_⟩
    refine lc_list (K := K) (a := l) (xs := vN (NM.bitsOf f.wish.path)) (fun j H' => H' D = some (.lst (((NM.spares n f.wish.path).take j).map V.int)) ∧ Same H H') ⟨upd_same, Same.upd hD⟩ (fun j H' _ p => SqL.of (p.2 _ _ Fb.lin)) ?_ ?_
    · rintro j x H' hj ⟨p1, p2⟩
      obtain ⟨k, hk, rfl⟩ := vN_of hj
      have lk : k < n.room.length := NM.bitsOf_lt wok.2.1 (List.mem_of_getElem? hk)
      have N' := N.same p2
      refine ⟨rfl, _, rfl, a, dx, _, rfl, p2 _ _ ha, nf_no rm fl (by decide +kernel) (by decide +kernel), _, rfl, a, rm, fl, as, n, k, rfl, N', lk, fun H2 sm2 => ⟨_, sm2 _ _ p1, ?_, ?_, ?_⟩⟩
      · rw [List.length_map, List.length_take]
        have z : (NM.spares n f.wish.path).length ≤ 16 := by
          unfold NM.spares NM.bitsOf
          rw [List.length_map]
          exact Nat.le_trans (List.length_filter_le _ _) (by rw [List.length_range]; exact Nat.le_refl _)
        exact Nat.lt_of_le_of_lt (Nat.min_le_right _ _) (Nat.lt_of_le_of_lt z (by decide))
      · have e : (NM.spares n f.wish.path)[j]? = some ((Km357.at_ n.room k : Int) - (NM.useOf n.flows k : Int)) := by
          unfold NM.spares
          rw [List.getElem?_map, hk]
          rfl
        rw [upd_same, NM.take_snoc e, List.map_append]
        rfl
      · intro c o e
        rw [upd_ne (ne_of_none e hD)]
        exact sm2 _ _ (p2 c o e)
    · rintro H1 ⟨p1, p2⟩
      have el : (vN (NM.bitsOf f.wish.path)).length = (NM.spares n f.wish.path).length := by
        unfold NM.spares
        rw [vN_length, List.length_map]
      rw [el, List.take_length] at p1
      refine ⟨D, _, rfl, SqL.of p1, NM.spares_ne N.ok hf, fun m hm hl => ?_⟩
      obtain ⟨sp1, sp2⟩ := NM.spare_of N.ok hf hm hl
      have N1 := N.same p2
      have Fb1 := Fb.same p2
      obtain ⟨db1, eb1⟩ := Fb1.ins
      refine ⟨_, rfl, _, _, rfl, rfl, _, rfl, ?_⟩
      refine iteD (fun c => ?_) (fun c => ?_)
      · have es := sp1 c
        have hs : 0 < n.spare i := by omega
        have ev : (if (t : Int) < ((f.told : Nat) : Int) + m then (t : Int) else ((f.told : Nat) : Int) + m) = ((min t (f.told + n.spare i) : Nat) : Int) := by
          split <;> omega
        refine ⟨_, rfl, b, db1, _, rfl, eb1, mno f, _, rfl, b, C, db1, _, _, rfl, eb1, T.cl, T.told, ff_told l f, _, rfl, _, _, rfl, rfl, _, rfl, _, _, rfl,
          b, l, f, min t (f.told + n.spare i), congrArg (fun z => [V.ref b, V.int z]) ev, Fb1, fun H2 F2 kp => ?_⟩
        refine q H2 ?_ fun c' o e hc => kp c' o (p2 c' o e) hc
        unfold raised
        rw [if_pos hs]
        exact N1.put hC hi hf F2 rfl wok.2.2 kp
      · have hs : ¬ 0 < n.spare i := by
          have := sp2 (by omega)
          omega
        refine q H1 ?_ fun c' o e _ => p2 c' o e
        unfold raised
        rw [if_neg hs]
        exact N1

/-! ### plan -/
abbrev s_plan : Stmt := inClass (top 37) 7
theorem sc_plan : FnScope ["self", "fair", "k", "flow"] ["self"] (defScope s_plan) := ⟨rfl, rfl, rfl, by decide +kernel, rfl, by decide +kernel, by decide +kernel⟩

def sp_plan (C CN : Addr) : Sp := fun vs H Q _ => ∃ (a rm fl : Addr) (as : List (Addr × Addr)) (n : Km357.Net), vs = [.ref a] ∧ NetAt C CN H a rm fl as n ∧
  ∀ H' : Hp, NetAt C CN H' a rm fl as n.plan → (∀ c o, H c = some o → (∀ p ∈ as, p.1 ≠ c) → H' c = some o) → Q .non H'
theorem ok_plan {f : Addr} {fd : FuncData} (hC : C ≠ CN) (T : ClsF K C) (TN : ClsN K CN) (B : Blt mg) (Fn : Fun K "plan" "Net.plan" s_plan f fd)
    (h_fair_shares : Has P w K mg base "fair_shares" 3 ["room", "flows"] (sp_fair K C)) (m_can_be_told : HasM P w K mg base C "can_be_told" 1 ["self"] (sp_can C))
    (m_tell : HasM P w K mg base C "tell" 1 ["self", "share"] (sp_tell C)) (m_raise_towards : HasM P w K mg base CN "raise_towards" 3 ["self", "flow", "fair"] (sp_raise C CN)) : FnOk P w K mg base CX0 4 f fd ["self"] (sp_plan C CN) := by
  refine Fn.ok sc_plan (fun vs H Q E h => ?_) (fun cdv A outer s H vs Q E hr h => ?_)
  · obtain ⟨a, rm, fl, as, n, rfl, _⟩ := h
    rfl
  · obtain ⟨a, rm, fl, as, n, rfl, N, q⟩ := h
    obtain ⟨dx, ha⟩ := N.ins
    have noCan : ∀ l x, (ff l x).lookup ("can_be_told" : Str) = none := fun l x => ff_no l x (by decide +kernel) (by decide +kernel) (by decide +kernel) (by decide +kernel) (by decide +kernel) (by decide +kernel)
    have noTell : ∀ l x, (ff l x).lookup ("tell" : Str) = none := fun l x => ff_no l x (by decide +kernel) (by decide +kernel) (by decide +kernel) (by decide +kernel) (by decide +kernel) (by decide +kernel)
    have noRaise : ∀ x y, (nf x y).lookup ("raise_towards" : Str) = none := fun x y => nf_no x y (by decide +kernel) (by decide +kernel)
    have elen : (as.map fun p => V.ref p.1).length = n.flows.length := by rw [List.length_map, N.flows.len]
    have f16 : n.flows.length ≤ 16 := by
      have e := N.ok.w16
      rw [List.length_map] at e
      exact e
    have tl := NM.fair_len n
    refine ⟨_, (pss_cons (ps_set (i := 1) sc_plan.nd rfl (Or.inl rfl) (pe_has h_fair_shares hr (by decide) rfl (pa_cons (pe_fld (pv 0) (by rfl)) (pa_cons (pe_fld (pv 0) (by rfl)) pa_nil)))) (pss_cons (ps_for PassesOwn.never rfl (pi_range1 rfl B.range (pa_cons (pe_callB call_len_seq (by rfl) B.len PySem.boot_len (pa_cons (pe_fld (pv 0) (by rfl)) pa_nil)) pa_nil)) (pg_name (i := 2) sc_plan.nd rfl (Or.inl rfl)) (pss_cons (ps_set (i := 3) sc_plan.nd rfl (Or.inl rfl) (pe_ix ix_list (pe_fld (pv 0) (by rfl)) (pv 2) (fun _ _ => rfl))) (pss_one (ps_if (PW.pt (pw_and (pt_truth (pe_hasm0 m_can_be_told hr (by decide) (pv 3)) (fun _ => rfl)) (pw_and1 (pt_cmpR op_gtN (pe_fld (pv 3) (by rfl)) (pe_ix ix_list (pv 1) (pv 2) (fun _ _ => rfl)) (nomark _))))) (pss_one (ps_expr (pe_hasm m_tell hr (by decide) (pv 3) (pa_cons (pe_ix ix_list (pv 1) (pv 2) (fun _ _ => rfl)) pa_nil)))) pss_nil)))) (pss_one (ps_for PassesOwn.never rfl (pi_range1 rfl B.range (pa_cons (pe_callB call_len_seq (by rfl) B.len PySem.boot_len (pa_cons (pe_fld (pv 0) (by rfl)) pa_nil)) pa_nil)) (pg_name (i := 2) sc_plan.nd rfl (Or.inl rfl)) (pss_cons (ps_set (i := 3) sc_plan.nd rfl (Or.inl rfl) (pe_ix ix_list (pe_fld (pv 0) (by rfl)) (pv 2) (fun _ _ => rfl))) (pss_one (ps_if (PW.pt (pw_and (pt_truth (pe_hasm0 m_can_be_told hr (by decide) (pv 3)) (fun _ => rfl)) (pw_and1 (pt_cmpR op_ltN (pe_fld (pv 3) (by rfl)) (pe_ix ix_list (pv 1) (pv 2) (fun _ _ => rfl)) (nomark _))))) (pss_one (ps_expr (pe_hasm m_raise_towards hr (by decide) (pv 0) (pa_cons (pv 3) (pa_cons (pe_ix ix_list (pv 1) (pv 2) (fun _ _ => rfl)) pa_nil))))) pss_nil))))))), ?_⟩
    refine ⟨_, rfl, a, CN, dx, _, _, rfl, ha, TN.cl, TN.room, nf_room rm fl, _, rfl, a, CN, dx, _, _, rfl, ha, TN.cl, TN.flows, nf_flows rm fl, rm, fl, as, n.room, n.flows, rfl, SqL.of N.room, N.flows, N.ok, fun H1 S nS hS sm1 => ?_⟩
    have hS : H1 S = some (.lst (vN n.fair)) := hS
    have N1 := N.same sm1
    have ha1 := sm1 _ _ ha
    have nSa : ∀ {H' : Hp} {b : Addr} {d : Addr} {x : List (Str × V)} {y : List V}, H' S = some (.lst y) → H' b = some (.ins C d x) → S ≠ b := fun h1 h2 => ne_of h1 h2 (by intro z; cases z)
    have kA := NM.toA_kin n.fair n
    refine ⟨_, rfl, a, CN, dx, _, _, rfl, ha1, TN.cl, TN.flows, nf_flows rm fl, fl, _, rfl, .inl (SqL.of N1.flows.lst), _, rfl, by omega, by omega, ?_⟩
    rw [elen, Int.toNat_natCast]
    refine for_range (n := n.flows.length) (fun k σ H' => ∃ v2 v3 : Option V, σ = [some (.ref a), some (.ref S), v2, v3] ∧ NetAt C CN H' a rm fl as (NM.toA n.fair n k) ∧ H' S = some (.lst (vN n.fair)) ∧ ∀ c o, H c = some o → (∀ p ∈ as, p.1 ≠ c) → H' c = some o)
      ⟨none, none, rfl, N1, hS, fun c o e _ => sm1 c o e⟩ ?_ ?_
    · rintro k σ H' hk ⟨v2, v3, rfl, N', hS', fr⟩
      rw [Int.zero_add]
      have hk' : k < (NM.toA n.fair n k).flows.length := by rw [(kA k (by omega)).len]; exact hk
      obtain ⟨f, hf⟩ : ∃ f, (NM.toA n.fair n k).flows[k]? = some f := ⟨_, List.getElem?_eq_getElem hk'⟩
      obtain ⟨b, l, has, hat, Fb⟩ := N'.flows.get hf
      obtain ⟨d', ha'⟩ := N'.ins
      obtain ⟨db, eb⟩ := Fb.ins
      have mb : ∀ c, (∀ p ∈ as, p.1 ≠ c) → c ≠ b := fun c hc e => hc _ (List.mem_of_getElem? has) e.symm
      refine ⟨_, rfl, a, CN, d', _, _, rfl, ha', TN.cl, TN.flows, nf_flows rm fl, _, rfl, fl, _, _, _, rfl, rfl, SqL.of N'.flows.lst, hat, ?_⟩
      refine ⟨_, rfl, b, db, _, rfl, eb, noCan l f, b, l, f, rfl, Fb, _, rfl, ?_⟩
      have no : ∀ v2' v3', ¬ (NM.canTell f = true ∧ Km357.at_ n.fair k < f.told) → ∃ v2 v3 : Option V, ([some (.ref a), some (.ref S), v2', v3'] : L2.St) = [some (.ref a), some (.ref S), v2, v3] ∧ NetAt C CN H' a rm fl as (NM.toA n.fair n (k + 1)) ∧ H' S = some (.lst (vN n.fair)) ∧ ∀ c o, H c = some o → (∀ p ∈ as, p.1 ≠ c) → H' c = some o := fun v2' v3' c => by
        refine ⟨v2', v3', rfl, ?_, hS', fr⟩
        rw [NM.toA_succ, NM.stepA_no hf c]
        exact N'
      cases c1 : NM.canTell f with
      | false => exact no _ _ fun z => by rw [c1] at z; cases z.1
      | true =>
        refine iteT ⟨_, rfl, b, C, db, _, _, rfl, eb, T.cl, T.told, ff_told l f, _, rfl, _, rfl, S, _, _, _, rfl, rfl, SqL.of hS', atN (by rw [tl]; exact hk), _, _, rfl, rfl, _, rfl, ?_⟩
        refine iteD (fun c2 => ?_) (fun c2 => no _ _ fun z => c2 z.2)
        refine ⟨_, rfl, b, db, _, rfl, eb, noTell l f, _, rfl, _, rfl, S, _, _, _, rfl, rfl, SqL.of hS', atN (by rw [tl]; exact hk), b, l, f, _, rfl, Fb, fun H2 F2 kp => ?_⟩
        refine ⟨_, _, rfl, ?_, kp _ _ hS' (nSa hS' eb), fun c o e hc => kp c o (fr c o e hc) (mb c hc)⟩
        rw [NM.toA_succ, NM.stepA_yes hf c1 c2]
        exact N'.put hC has hf F2 rfl (N'.ok.at hf).2.2 kp
    · rintro σ HA ⟨v2, v3, rfl, NA, hSA, frA⟩
      have kk := kA n.flows.length (Nat.le_refl _)
      have kB := NM.toB_kin n.fair (NM.toA n.fair n n.flows.length)
      obtain ⟨dA, haA⟩ := NA.ins
      have elenA : (as.map fun p => V.ref p.1).length = (NM.toA n.fair n n.flows.length).flows.length := by rw [elen, kk.len]
      refine ⟨_, rfl, a, CN, dA, _, _, rfl, haA, TN.cl, TN.flows, nf_flows rm fl, fl, _, rfl, .inl (SqL.of NA.flows.lst), _, rfl, by omega, by omega, ?_⟩
      rw [elen, Int.toNat_natCast]
      refine for_range (n := n.flows.length) (fun k σ H' => ∃ v2 v3 : Option V, σ = [some (.ref a), some (.ref S), v2, v3] ∧ NetAt C CN H' a rm fl as (NM.toB n.fair (NM.toA n.fair n n.flows.length) k) ∧ H' S = some (.lst (vN n.fair)) ∧ ∀ c o, H c = some o → (∀ p ∈ as, p.1 ≠ c) → H' c = some o)
        ⟨v2, v3, rfl, NA, hSA, frA⟩ ?_ ?_
      · rintro k σ H' hk ⟨v2, v3, rfl, N', hS', fr⟩
        rw [Int.zero_add]
        have hk' : k < (NM.toB n.fair (NM.toA n.fair n n.flows.length) k).flows.length := by rw [(kB k (by rw [kk.len]; omega)).len, kk.len]; exact hk
        obtain ⟨f, hf⟩ : ∃ f, (NM.toB n.fair (NM.toA n.fair n n.flows.length) k).flows[k]? = some f := ⟨_, List.getElem?_eq_getElem hk'⟩
        obtain ⟨b, l, has, hat, Fb⟩ := N'.flows.get hf
        obtain ⟨d', ha'⟩ := N'.ins
        obtain ⟨db, eb⟩ := Fb.ins
        have mb : ∀ c, (∀ p ∈ as, p.1 ≠ c) → c ≠ b := fun c hc e => hc _ (List.mem_of_getElem? has) e.symm
        refine ⟨_, rfl, a, CN, d', _, _, rfl, ha', TN.cl, TN.flows, nf_flows rm fl, _, rfl, fl, _, _, _, rfl, rfl, SqL.of N'.flows.lst, hat, ?_⟩
        refine ⟨_, rfl, b, db, _, rfl, eb, noCan l f, b, l, f, rfl, Fb, _, rfl, ?_⟩
        have no : ∀ (H2 : Hp) v2' v3', NetAt C CN H2 a rm fl as (NM.toB n.fair (NM.toA n.fair n n.flows.length) k) → H2 S = some (.lst (vN n.fair)) → (∀ c o, H c = some o → (∀ p ∈ as, p.1 ≠ c) → H2 c = some o) →
            ¬ (NM.canTell f = true ∧ f.told < Km357.at_ n.fair k ∧ 0 < (NM.toB n.fair (NM.toA n.fair n n.flows.length) k).spare k) → ∃ v2 v3 : Option V, ([some (.ref a), some (.ref S), v2', v3'] : L2.St) = [some (.ref a), some (.ref S), v2, v3] ∧ NetAt C CN H2 a rm fl as (NM.toB n.fair (NM.toA n.fair n n.flows.length) (k + 1)) ∧ H2 S = some (.lst (vN n.fair)) ∧ ∀ c o, H c = some o → (∀ p ∈ as, p.1 ≠ c) → H2 c = some o := fun H2 v2' v3' n2 s2 f2 c => by
          refine ⟨v2', v3', rfl, ?_, s2, f2⟩
          rw [NM.toB_succ, NM.stepB_no hf c]
          exact n2
        cases c1 : NM.canTell f with
        | false => exact no _ _ _ N' hS' fr fun z => by rw [c1] at z; cases z.1
        | true =>
          refine iteT ⟨_, rfl, b, C, db, _, _, rfl, eb, T.cl, T.told, ff_told l f, _, rfl, _, rfl, S, _, _, _, rfl, rfl, SqL.of hS', atN (by rw [tl]; exact hk), _, _, rfl, rfl, _, rfl, ?_⟩
          refine iteD (fun c2 => ?_) (fun c2 => no _ _ _ N' hS' fr fun z => c2 z.2.1)
          refine ⟨_, rfl, a, d', _, rfl, ha', noRaise rm fl, _, rfl, _, rfl, _, rfl, S, _, _, _, rfl, rfl, SqL.of hS', atN (by rw [tl]; exact hk), a, rm, fl, as, _, k, b, l, f, _, rfl, N', has, hf, fun H2 N2 kp => ?_⟩
          have hS2 := kp _ _ hS' (nSa hS' eb)
          have fr2 : ∀ c o, H c = some o → (∀ p ∈ as, p.1 ≠ c) → H2 c = some o := fun c o e hc => kp c o (fr c o e hc) (mb c hc)
          unfold raised at N2
          by_cases c3 : 0 < (NM.toB n.fair (NM.toA n.fair n n.flows.length) k).spare k
          · rw [if_pos c3] at N2
            refine ⟨_, _, rfl, ?_, hS2, fr2⟩
            rw [NM.toB_succ, NM.stepB_yes hf c1 c2 c3]
            exact N2
          · rw [if_neg c3] at N2
            exact no _ _ _ N2 hS2 fr2 fun z => c3 z.2.2
      · rintro σ HB ⟨v2, v3, rfl, NB', hSB, frB⟩
        exact q HB (by rw [NM.plan_eq]; exact NB') frB
end
end NB
set_option Elab.async false
set_option linter.all false
set_option maxRecDepth 100000
set_option maxHeartbeats 2000000
namespace NB
open PySem PySem.Spec PyProof.Rows L2
/-! ### what a call of the net leaves alone -/
/-- no instance of Flow, nor of Net -/
def NI (C CN : Addr) (o : HO) : Prop := ∀ D dx f, o = .ins D dx f → D ≠ C ∧ D ≠ CN
/-- the lists of the net -/
def Foot (rm fl : Addr) (as : List (Addr × Addr)) (c : Addr) : Prop := c = rm ∨ c = fl ∨ ∃ p ∈ as, p.2 = c
/-- what isn't the net's -/
def Old (C CN : Addr) (H : Hp) (rm fl : Addr) (as : List (Addr × Addr)) (c : Addr) : Prop := ¬ Foot rm fl as c ∧ ∃ o, H c = some o ∧ NI C CN o
/-- the answer of a call of the net, and the net behind it -/
def NPost (C CN : Addr) (H : Hp) (a rm fl : Addr) (as : List (Addr × Addr)) (y : Km357.Net × Km357.Ans) (Q : VK) : Prop :=
  ∀ (H' : Hp) (rm' fl' : Addr) (as' : List (Addr × Addr)) (p : Addr), NetAt C CN H' a rm' fl' as' y.1 → (∀ c, Old C CN H rm fl as c → ¬ Foot rm' fl' as' c ∧ c ≠ p ∧ H' c = H c) →
    H' p = some (.lst ((Km357Neutral.told y.2).map V.int)) → Q (.ref p) H'
section
variable {C CN : Addr} {H H1 : Hp} {a rm fl rm' fl' : Addr} {as as' : List (Addr × Addr)} {Q : VK} {y : Km357.Net × Km357.Ans}
theorem NPost.list (k : NPost C CN H a rm fl as y Q) (N : NetAt C CN H1 a rm' fl' as' y.1) (h : ∀ c, Old C CN H rm fl as c → ¬ Foot rm' fl' as' c ∧ H1 c = H c) {xs : List V} (e : xs = (Km357Neutral.told y.2).map V.int) :
    ∀ p, H1 p = none → Q (.ref p) (upd H1 p (.lst xs)) := fun p hp => by
  subst e
  refine k _ rm' fl' as' p (N.same (Same.upd hp)) (fun c hc => ?_) upd_same
  obtain ⟨h1, h2⟩ := h c hc
  obtain ⟨_, o, e, _⟩ := hc
  have ne : c ≠ p := fun q => by
    rw [q] at h2 e
    rw [hp, e] at h2
    cases h2
  exact ⟨h1, ne, by rw [upd_ne ne]; exact h2⟩
theorem NPost.one (k : NPost C CN H a rm fl as y Q) (N : NetAt C CN H1 a rm' fl' as' y.1) (h : ∀ c, Old C CN H rm fl as c → ¬ Foot rm' fl' as' c ∧ H1 c = H c) {v : Int} (e : Km357Neutral.told y.2 = [v]) :
    ([V.int v].length ≤ sizeLine) ∧ ∀ p, H1 p = none → Q (.ref p) (upd H1 p (.lst [.int v])) :=
  ⟨by show 1 ≤ sizeLine; decide, k.list N h (by rw [e]; rfl)⟩
theorem old_same (s : Same H H1) : ∀ c, Old C CN H rm fl as c → ¬ Foot rm fl as c ∧ H1 c = H c := fun c ⟨h1, o, e, _⟩ => ⟨h1, by rw [e]; exact s _ _ e⟩
/-- what plan and a changed flow leave alone -/
theorem old_flows {n : Km357.Net} (N : NetAt C CN H a rm fl as n) {c : Addr} (h : Old C CN H rm fl as c) : ∀ p ∈ as, p.1 ≠ c := fun p hp q => by
  obtain ⟨i, hi⟩ := List.getElem?_of_mem hp
  have li := (List.getElem?_eq_some_iff.mp hi).1
  rw [N.flows.len] at li
  obtain ⟨dx, e⟩ := (N.flows.at_ i p _ hi (List.getElem?_eq_getElem li)).ins
  obtain ⟨_, o, eo, ni⟩ := h
  rw [q, eo] at e
  exact (ni _ _ _ (Option.some.inj e)).1 rfl
theorem old_a {n : Km357.Net} (N : NetAt C CN H a rm fl as n) {c : Addr} (h : Old C CN H rm fl as c) : c ≠ a := fun q => by
  obtain ⟨dx, e⟩ := N.ins
  obtain ⟨_, o, eo, ni⟩ := h
  rw [← q, eo] at e
  exact (ni _ _ _ (Option.some.inj e)).2 rfl
end
theorem told_only (v : Int) : Km357Neutral.told (Km357.only v) = [v] := rfl
section
variable {P : Program} {w : World} {K : PySem.W.Frag} {mg : Str → Option Value} {base : Heap} {C CN : Addr}

/-! ### Net() -/
abbrev s_Net_init : Stmt := inClass (top 37) 0
theorem sc_Net_init : FnScope ["self"] ["self"] (defScope s_Net_init) := ⟨rfl, rfl, rfl, by decide +kernel, rfl, by decide +kernel, by decide +kernel⟩

def sp_Net (C CN : Addr) : Sp := fun vs H Q _ => ∃ (x dx : Addr), vs = [.ref x] ∧ H x = some (.ins CN dx []) ∧
  ∀ (H' : Hp) (rm fl : Addr), H rm = none → H fl = none → NetAt C CN H' x rm fl [] ⟨[], []⟩ → (∀ b o, H b = some o → b ≠ x → H' b = some o) → Q .non H'
theorem ok_Net {f : Addr} {fd : FuncData} (TN : ClsN K CN) (Fn : Fun K "__init__" "Net.__init__" s_Net_init f fd) : FnOk P w K mg base CX0 1 f fd ["self"] (sp_Net C CN) := by
  refine Fn.ok sc_Net_init (fun vs H Q E h => ?_) (fun cdv A outer s H vs Q E hr h => ?_)
  · obtain ⟨x, dx, rfl, _⟩ := h
    rfl
  · obtain ⟨x, dx, rfl, hx, k⟩ := h
    refine ⟨_, (pss_cons (ps_fld (pv 0) (pe_lst pa_nil) (by rfl)) (pss_one (ps_fld (pv 0) (pe_lst pa_nil) (by rfl)))), ?_⟩
    refine ⟨Nat.zero_le _, fun rm hrm => ?_⟩
    have nxr : x ≠ rm := ne_of_none hx hrm
    refine ⟨_, rfl, x, CN, dx, _, rfl, (by rw [upd_ne nxr]; exact hx), TN.cl, TN.room, (by show 0 < 1000; decide), ?_⟩
    refine ⟨Nat.zero_le _, fun fl hfl => ?_⟩
    have nfx : fl ≠ x := fun e => by
      rw [e, upd_same] at hfl
      cases hfl
    rw [upd_ne nfx] at hfl
    have nfr : fl ≠ rm := fun e => by
      rw [e, upd_same] at hfl
      cases hfl
    rw [upd_ne nfr] at hfl
    refine ⟨_, rfl, x, CN, dx, _, rfl, (by rw [upd_ne nfx.symm]; exact upd_same), TN.cl, TN.flows, (by show 1 < 1000; decide), ?_⟩
    have e : putF "flows" (.ref fl) (putF "room" (.ref rm) []) = nf rm fl := by
      unfold nf
      rw [pf_nil, pf_tl (by decide +kernel), pf_nil]
    rw [e]
    refine k _ rm fl hrm hfl ⟨⟨dx, upd_same⟩, ?_, ⟨?_, rfl, List.nodup_nil, fun j p f hj => ?_⟩, nfr.symm, fun p hp => (by cases hp), ?_⟩ fun b o e hb => ?_
    · rw [upd_ne nxr.symm, upd_ne nfr.symm, upd_ne nxr.symm]
      exact upd_same
    · rw [upd_ne nfx]
      exact upd_same
    · simp at hj
    · exact ⟨Nat.zero_le _, fun x hx => (by cases hx), Nat.zero_le _, fun x hx => (by cases hx), fun x hx => (by cases hx), fun x hx => (by cases hx)⟩
    · rw [upd_ne hb, upd_ne (ne_of_none e hfl), upd_ne hb, upd_ne (ne_of_none e hrm)]
      exact e

/-! ### sn_start -/
theorem nStart_bad {n : Km357.Net} {r : List Nat} (h : ¬ (1 ≤ r.length ∧ r.length ≤ 16 ∧ ∀ x ∈ r, x ≤ 200)) : Km357.nDoes n (.nStart r r.length) = (n, Km357.only (-22)) := by
  refine if_pos ?_
  by_cases h1 : Km357.okLines r.length = false
  · exact .inl h1
  · refine .inr ?_
    have h2 : Km357.okLines r.length = true := by
      cases e : Km357.okLines r.length with
      | true => rfl
      | false => exact absurd e h1
    unfold Km357.okLines Km357.LINES at h2
    rw [Bool.and_eq_true, decide_eq_true_eq, decide_eq_true_eq] at h2
    cases e : r.any fun x => decide (Km357.MOST < x) with
    | true => rfl
    | false =>
      rw [List.any_eq_false] at e
      refine absurd ⟨h2.1, h2.2, fun x hx => ?_⟩ h
      have := e x hx
      rw [decide_eq_true_eq] at this
      exact Nat.not_lt.mp this
theorem nStart_ok {n : Km357.Net} {r : List Nat} (h : 1 ≤ r.length ∧ r.length ≤ 16 ∧ ∀ x ∈ r, x ≤ 200) : Km357.nDoes n (.nStart r r.length) = (⟨r, []⟩, Km357.only 0) := by
  refine if_neg ?_
  rintro (h1 | h1)
  · unfold Km357.okLines Km357.LINES at h1
    rw [decide_eq_true h.1, decide_eq_true h.2.1] at h1
    cases h1
  · rw [List.any_eq_true] at h1
    obtain ⟨x, hx, q⟩ := h1
    rw [decide_eq_true_eq] at q
    exact absurd (h.2.2 x hx) (Nat.not_le.mpr q)
abbrev s_sn_start : Stmt := inClass (top 37) 1
theorem sc_sn_start : FnScope ["self", "room"] ["self", "room"] (defScope s_sn_start) := ⟨rfl, rfl, rfl, by decide +kernel, rfl, by decide +kernel, by decide +kernel⟩

def sp_sn_start (C CN : Addr) : Sp := fun vs H Q _ => ∃ (a b rm fl : Addr) (as : List (Addr × Addr)) (n : Km357.Net) (r : List Nat), vs = [.ref a, .ref b] ∧ NetAt C CN H a rm fl as n ∧ H b = some (.lst (vN r)) ∧ NPost C CN H a rm fl as (Km357.nDoes n (.nStart r r.length)) Q
theorem ok_sn_start {f : Addr} {fd : FuncData} (T : Txt mg) (TN : ClsN K CN) (B : Blt mg) (Fn : Fun K "sn_start" "Net.sn_start" s_sn_start f fd) : FnOk P w K mg base CX0 1 f fd ["self", "room"] (sp_sn_start C CN) := by
  refine Fn.ok sc_sn_start (fun vs H Q E h => ?_) (fun cdv A outer s H vs Q E hr h => ?_)
  · obtain ⟨a, b, rm, fl, as, n, r, rfl, _⟩ := h
    rfl
  · obtain ⟨a, b, rm, fl, as, n, r, rfl, N, hb, k⟩ := h
    obtain ⟨dx, ha⟩ := N.ins
    refine ⟨_, (pss_cons (ps_if (PW.pt (pw_or (pt_cmpR op_ltN (pe_callB call_len_seq (by rfl) B.len PySem.boot_len (pa_cons (pv 1) pa_nil)) pe_int (nomark _)) (pw_or (pt_cmpR op_gtN (pe_callB call_len_seq (by rfl) B.len PySem.boot_len (pa_cons (pv 1) pa_nil)) (pe_num T.MOST_LINES rfl) (nomark _)) (pw_or1 (pt_cmpR op_gtN (pe_callB (cr_max rfl) (by rfl) B.max boot_max (pa_cons (pv 1) pa_nil)) (pe_num T.MOST_UNITS rfl) (nomark _)))))) (pss_one (ps_ret (pe_lst (pa_cons (pe_num T.INVALID rfl) pa_nil)))) pss_nil) (pss_cons (ps_fld (pv 0) (pe_callTy call_list_of (by rfl) B.list boot_list (pa_cons (pv 1) pa_nil)) (by rfl)) (pss_cons (ps_fld (pv 0) (pe_lst pa_nil) (by rfl)) (pss_one (ps_ret (pe_lst (pa_cons pe_int pa_nil))))))), ?_⟩
    have bad : ¬ (1 ≤ r.length ∧ r.length ≤ 16 ∧ ∀ x ∈ r, x ≤ 200) → ([V.int (-22)].length ≤ sizeLine) ∧ ∀ p, H p = none → Q (.ref p) (upd H p (.lst [.int (-22)])) := fun h => by
      rw [nStart_bad h] at k
      exact k.one N (old_same fun _ _ e => e) rfl
    refine ⟨_, rfl, b, _, rfl, .inl (SqL.of hb), r.length, 1, (by rw [vN_length]), rfl, _, rfl, ?_⟩
    refine iteD (fun c => bad fun h => by omega) (fun c1 => ?_)
    refine ⟨_, rfl, b, _, rfl, .inl (SqL.of hb), r.length, 16, (by rw [vN_length]), rfl, _, rfl, ?_⟩
    refine iteD (fun c => bad fun h => by omega) (fun c2 => ?_)
    refine ⟨_, rfl, b, r.map fun (x : Nat) => (x : Int), rfl, (by rw [← vN_ints]; exact SqL.of hb), (by rw [List.length_map]; omega), fun m hm hl => ?_⟩
    obtain ⟨x, hx, rfl⟩ := List.mem_map.mp hm
    refine ⟨x, 200, rfl, rfl, _, rfl, ?_⟩
    refine iteD (fun c => bad fun h => by have := h.2.2 x hx; omega) (fun c3 => ?_)
    have ok : 1 ≤ r.length ∧ r.length ≤ 16 ∧ ∀ x ∈ r, x ≤ 200 := ⟨by omega, by omega, fun y hy => by
      have := hl (y : Int) (List.mem_map.mpr ⟨y, hy, rfl⟩)
      omega⟩
    rw [nStart_ok ok] at k
    refine ⟨_, rfl, b, _, rfl, .inl (SqL.of hb), fun L nL => ?_⟩
    have naL : a ≠ L := ne_of_none ha nL
    refine ⟨_, rfl, a, CN, dx, _, rfl, (by rw [upd_ne naL]; exact ha), TN.cl, TN.room, (by show 2 < 1000; decide), ?_⟩
    rw [nf_putRoom]
    refine ⟨Nat.zero_le _, fun F nF => ?_⟩
    have nFa : F ≠ a := fun e => by
      rw [e, upd_same] at nF
      cases nF
    rw [upd_ne nFa] at nF
    have nFL : F ≠ L := fun e => by
      rw [e, upd_same] at nF
      cases nF
    rw [upd_ne nFL] at nF
    refine ⟨_, rfl, a, CN, dx, _, rfl, (by rw [upd_ne nFa.symm]; exact upd_same), TN.cl, TN.flows, (by show 2 < 1000; decide), ?_⟩
    rw [nf_putFlows]
    refine k.one (rm' := L) (fl' := F) (as' := []) ⟨⟨dx, upd_same⟩, ?_, ⟨?_, rfl, List.nodup_nil, fun j p f hj => ?_⟩, nFL.symm, fun p hp => (by cases hp), ?_⟩ (fun c hc => ?_) rfl
    · rw [upd_ne naL.symm, upd_ne nFL.symm, upd_ne naL.symm]
      exact upd_same
    · rw [upd_ne nFa]
      exact upd_same
    · simp at hj
    · exact ⟨ok.2.1, ok.2.2, Nat.zero_le _, fun x hx => (by cases hx), fun x hx => (by cases hx), fun x hx => (by cases hx)⟩
    · have ca := old_a N hc
      obtain ⟨h1, o, eo, ni⟩ := hc
      have cL := ne_of_none eo nL
      have cF := ne_of_none eo nF
      refine ⟨?_, ?_⟩
      · rintro (q | q | ⟨p, hp, _⟩)
        · exact cL q
        · exact cF q
        · cases hp
      · rw [upd_ne ca, upd_ne cF, upd_ne ca, upd_ne cL]
end
end NB
set_option Elab.async false
set_option linter.all false
set_option maxRecDepth 100000
set_option maxHeartbeats 2000000
namespace NB
open PySem PySem.Spec PyProof.Rows L2
section
variable {P : Program} {w : World} {K : PySem.W.Frag} {mg : Str → Option Value} {base : Heap} {C CN : Addr}
theorem noPlan (rm fl : Addr) : (nf rm fl).lookup ("plan" : Str) = none := nf_no rm fl (by decide +kernel) (by decide +kernel)
theorem NetAt.elen {H : Hp} {a rm fl : Addr} {as : List (Addr × Addr)} {n : Km357.Net} (N : NetAt C CN H a rm fl as n) : (as.map fun p => V.ref p.1).length = n.flows.length := by rw [List.length_map, N.flows.len]
theorem NetAt.f16 {H : Hp} {a rm fl : Addr} {as : List (Addr × Addr)} {n : Km357.Net} (N : NetAt C CN H a rm fl as n) : n.flows.length ≤ 16 := by
  have e := N.ok.w16
  rw [List.length_map] at e
  exact e
/-- one more flow -/
def added (n : Km357.Net) (f : Km357.Flow) : Km357.Net := { n with flows := n.flows ++ [f] }
theorem NetAt.add {H H1 : Hp} {a rm fl : Addr} {as : List (Addr × Addr)} {n : Km357.Net} (N : NetAt C CN H a rm fl as n) {x l : Addr} {f : Km357.Flow} (nx : H x = none) (nl : H l = none) (s : Same H H1) (F : FlAt C H1 x l f)
    (h16 : n.flows.length < 16) (h0 : f.wish.path ≠ 0) (h2 : f.wish.path < 2 ^ n.room.length) (hm : f.wish.most ≤ 200) :
    NetAt C CN (upd H1 fl (.lst ((as.map fun p => V.ref p.1) ++ [.ref x]))) a rm fl (as ++ [(x, l)]) (added n f) := by
  obtain ⟨dx, e⟩ := N.ins
  have naf : a ≠ fl := ne_of e N.flows.lst (by intro q; cases q)
  have nxf : x ≠ fl := (ne_of_none N.flows.lst nx).symm
  have nlf : l ≠ fl := (ne_of_none N.flows.lst nl).symm
  have cell : ∀ (j : Nat) (p : Addr × Addr) (g : Km357.Flow), as[j]? = some p → n.flows[j]? = some g → p.1 ≠ fl ∧ p.2 ≠ fl := fun j p g hj hg => by
    obtain ⟨d, e1⟩ := (N.flows.at_ j p g hj hg).ins
    exact ⟨ne_of e1 N.flows.lst (by intro q; cases q), N.nl p (List.mem_of_getElem? hj)⟩
  refine ⟨⟨dx, by rw [upd_ne naf]; exact s _ _ e⟩, by rw [upd_ne N.ne]; exact s _ _ N.room, ⟨?_, ?_, ?_, ?_⟩, N.ne, ?_, ?_⟩
  · rw [upd_same, List.map_append]
    rfl
  · show (as ++ [(x, l)]).length = (n.flows ++ [f]).length
    rw [List.length_append, List.length_append, N.flows.len]
    rfl
  · rw [List.map_append, List.nodup_append]
    refine ⟨N.flows.nd, by simp, ?_⟩
    intro u hu v hv q
    obtain ⟨p, hp, rfl⟩ := List.mem_map.mp hu
    have ev : v = x := by simpa using hv
    obtain ⟨i, hi⟩ := List.getElem?_of_mem hp
    have li := (List.getElem?_eq_some_iff.mp hi).1
    rw [N.flows.len] at li
    obtain ⟨d, e1⟩ := (N.flows.at_ i p _ hi (List.getElem?_eq_getElem li)).ins
    rw [q, ev, nx] at e1
    cases e1
  · intro j p g hj hg
    have hg : (n.flows ++ [f])[j]? = some g := hg
    by_cases lj : j < as.length
    · rw [List.getElem?_append_left lj] at hj
      rw [List.getElem?_append_left (by rw [← N.flows.len]; exact lj)] at hg
      obtain ⟨⟨d, e1⟩, e2⟩ := (N.flows.at_ j p g hj hg).same s
      obtain ⟨n1, n2⟩ := cell j p g hj hg
      exact ⟨⟨d, by rw [upd_ne n1]; exact e1⟩, by rw [upd_ne n2]; exact e2⟩
    · have ej : j = as.length := by
        have := (List.getElem?_eq_some_iff.mp hj).1
        rw [List.length_append] at this
        have e1 : [(x, l)].length = 1 := rfl
        omega
      subst ej
      rw [List.getElem?_append_right (Nat.le_refl _), Nat.sub_self] at hj
      rw [N.flows.len, List.getElem?_append_right (Nat.le_refl _), Nat.sub_self] at hg
      cases Option.some.inj hj
      cases Option.some.inj hg
      obtain ⟨⟨d, e1⟩, e2⟩ := F
      exact ⟨⟨d, by rw [upd_ne nxf]; exact e1⟩, by rw [upd_ne nlf]; exact e2⟩
  · intro p hp
    rcases List.mem_append.mp hp with q | q
    · exact N.nl p q
    · have : p = (x, l) := by simpa using q
      rw [this]
      exact nlf
  · have ok := N.ok
    have mem : ∀ v, v ∈ (added n f).flows.map Km357.Flow.wish → v = f.wish ∨ v ∈ n.flows.map Km357.Flow.wish := fun v hv => by
      have hv : v ∈ (n.flows ++ [f]).map Km357.Flow.wish := hv
      rw [List.map_append] at hv
      rcases List.mem_append.mp hv with q | q
      · exact .inr q
      · exact .inl (by simpa using q)
    refine ⟨ok.r16, ok.r200, ?_, fun v hv => ?_, fun v hv => ?_, fun v hv => ?_⟩
    · show ((n.flows ++ [f]).map Km357.Flow.wish).length ≤ 16
      rw [List.length_map, List.length_append]
      exact h16
    · rcases mem v hv with q | q
      · rw [q]; exact h0
      · exact ok.p0 v q
    · rcases mem v hv with q | q
      · rw [q]; exact h2
      · exact ok.p2 v q
    · rcases mem v hv with q | q
      · rw [q]; exact hm
      · exact ok.m200 v q

/-! ### sn_flow -/
def newFlow (p m : Nat) : Km357.Flow := ⟨⟨p, m⟩, 0, 0, 0, false⟩
theorem nFlow_bad {n : Km357.Net} {p m : Nat} (h : p = 0 ∨ 2 ^ n.room.length ≤ p ∨ 200 < m) : Km357.nDoes n (.flow p m) = (n, Km357.only (-22)) := if_pos h
theorem nFlow_full {n : Km357.Net} {p m : Nat} (h : ¬ (p = 0 ∨ 2 ^ n.room.length ≤ p ∨ 200 < m)) (f : 16 ≤ n.flows.length) : Km357.nDoes n (.flow p m) = (n, Km357.only (-28)) := (if_neg h).trans (if_pos f)
theorem nFlow_ok {n : Km357.Net} {p m : Nat} (h : ¬ (p = 0 ∨ 2 ^ n.room.length ≤ p ∨ 200 < m)) (f : ¬ 16 ≤ n.flows.length) : Km357.nDoes n (.flow p m) = ((added n (newFlow p m)).plan, Km357.only ((n.flows.length : Nat) : Int)) := (if_neg h).trans (if_neg f)
abbrev s_sn_flow : Stmt := inClass (top 37) 2
theorem sc_sn_flow : FnScope ["self", "path", "most"] ["self", "path", "most"] (defScope s_sn_flow) := ⟨rfl, rfl, rfl, by decide +kernel, rfl, by decide +kernel, by decide +kernel⟩

def sp_sn_flow (C CN : Addr) : Sp := fun vs H Q _ => ∃ (a rm fl : Addr) (as : List (Addr × Addr)) (n : Km357.Net) (p m : Nat), vs = [.ref a, .int (p : Int), .int (m : Int)] ∧ NetAt C CN H a rm fl as n ∧ NPost C CN H a rm fl as (Km357.nDoes n (.flow p m)) Q
theorem ok_sn_flow {f : Addr} {fd : FuncData} (X : Txt mg) (TN : ClsN K CN) (B : Blt mg) (Fn : Fun K "sn_flow" "Net.sn_flow" s_sn_flow f fd)
    (k_Flow : HasC P w K mg base "Flow" C 2 ["self", "path", "wish"] (sp_Flow C)) (m_plan : HasM P w K mg base CN "plan" 4 ["self"] (sp_plan C CN)) : FnOk P w K mg base CX0 5 f fd ["self", "path", "most"] (sp_sn_flow C CN) := by
  have T := X
  refine Fn.ok sc_sn_flow (fun vs H Q E h => ?_) (fun cdv A outer s H vs Q E hr h => ?_)
  · obtain ⟨a, rm, fl, as, n, p, m, rfl, _⟩ := h
    rfl
  · obtain ⟨a, rm, fl, as, n, p, m, rfl, N, k⟩ := h
    obtain ⟨dx, ha⟩ := N.ins
    refine ⟨_, (pss_cons (ps_if (PW.pt (pw_or (pt_cmpR op_eqN (pv 1) pe_int (nomark _)) (pw_or (pt_cmpR op_neN (pe_op op_shrN (pv 1) (pe_callB call_len_seq (by rfl) B.len PySem.boot_len (pa_cons (pe_fld (pv 0) (by rfl)) pa_nil))) pe_int (nomark _)) (pw_or1 (pt_cmpR op_gtN (pv 2) (pe_num T.MOST_UNITS rfl) (nomark _)))))) (pss_one (ps_ret (pe_lst (pa_cons (pe_num T.INVALID rfl) pa_nil)))) pss_nil) (pss_cons (ps_if (pt_cmpR op_eqN (pe_callB call_len_seq (by rfl) B.len PySem.boot_len (pa_cons (pe_fld (pv 0) (by rfl)) pa_nil)) (pe_num T.MOST_FLOWS rfl) (nomark _)) (pss_one (ps_ret (pe_lst (pa_cons (pe_num T.NO_PLACE rfl) pa_nil)))) pss_nil) (pss_cons (ps_expr (pe_bm PySem.F.plainAttrs_list PySem.F.slot_list_append PySem.F.type_list_append mt_append (pe_fld (pv 0) (by rfl)) (pa_cons (pe_hasc k_Flow hr (by decide) rfl (pa_cons (pv 1) (pa_cons (pv 2) pa_nil))) pa_nil))) (pss_cons (ps_expr (pe_hasm0 m_plan hr (by decide) (pv 0))) (pss_one (ps_ret (pe_lst (pa_cons (pe_op op_subN (pe_callB call_len_seq (by rfl) B.len PySem.boot_len (pa_cons (pe_fld (pv 0) (by rfl)) pa_nil)) pe_int) pa_nil)))))))), ?_⟩
    have bad : (p = 0 ∨ 2 ^ n.room.length ≤ p ∨ 200 < m) → ([V.int (-22)].length ≤ sizeLine) ∧ ∀ p, H p = none → Q (.ref p) (upd H p (.lst [.int (-22)])) := fun h => by
      rw [nFlow_bad h] at k
      exact k.one N (old_same fun _ _ e => e) rfl
    refine ⟨_, rfl, p, 0, rfl, rfl, _, rfl, ?_⟩
    refine iteD (fun c => bad (.inl c)) (fun c1 => ?_)
    refine ⟨_, rfl, _, rfl, a, CN, dx, _, _, rfl, ha, TN.cl, TN.room, nf_room rm fl, rm, _, rfl, .inl (SqL.of N.room), p, n.room.length, rfl, (by rw [vN_length]), _, 0, rfl, rfl, _, rfl, ?_⟩
    refine iteDn (fun c => bad (.inr (.inl ?_))) (fun c2 => ?_)
    · refine Nat.not_lt.mp fun h => c (Nat.div_eq_of_lt h)
    have c2' : p < 2 ^ n.room.length := by
      refine Nat.not_le.mp fun h => ?_
      have := Nat.div_pos h (Nat.two_pow_pos _)
      omega
    refine ⟨_, rfl, m, 200, rfl, rfl, _, rfl, ?_⟩
    refine iteD (fun c => bad (.inr (.inr c))) (fun c3 => ?_)
    have good : ¬ (p = 0 ∨ 2 ^ n.room.length ≤ p ∨ 200 < m) := by
      rintro (q | q | q)
      · exact c1 q
      · omega
      · exact c3 q
    have f16 := N.f16
    refine ⟨_, rfl, a, CN, dx, _, _, rfl, ha, TN.cl, TN.flows, nf_flows rm fl, fl, _, rfl, .inl (SqL.of N.flows.lst), n.flows.length, 16, (by rw [N.elen]), rfl, _, rfl, ?_⟩
    refine iteD (fun c => ?_) (fun c4 => ?_)
    · rw [nFlow_full good (by omega)] at k
      exact k.one N (old_same fun _ _ e => e) rfl
    rw [nFlow_ok good (by omega)] at k
    refine ⟨_, rfl, a, CN, dx, _, _, rfl, ha, TN.cl, TN.flows, nf_flows rm fl, .inl ⟨rfl, _, SqL.of N.flows.lst⟩, _, rfl, _, rfl, fun x dy nx nd ne => ⟨x, dy, p, m, rfl, upd_same, fun H1 l nl F1 kp => ⟨rfl, ?_⟩⟩⟩
    have sm : Same H H1 := Same.made nx nd kp
    have nlx : l ≠ x := F1.ne
    have nl0 : H l = none := by
      rw [upd_ne nlx] at nl
      by_cases q : l = dy
      · rw [q, upd_same] at nl
        cases nl
      · rw [upd_ne q] at nl
        exact nl
    refine ⟨fl, _, _, rfl, rfl, sm _ _ N.flows.lst, (by rw [N.elen]; exact Nat.lt_of_le_of_lt f16 (by decide)), ?_⟩
    have N2 := N.add nx nl0 sm F1 (by omega) c1 c2' (by show m ≤ 200; omega)
    obtain ⟨d2, ha2⟩ := N2.ins
    refine ⟨_, rfl, a, d2, _, rfl, ha2, noPlan rm fl, a, rm, fl, _, _, rfl, N2, fun H3 N3 fr => ?_⟩
    obtain ⟨d3, ha3⟩ := N3.ins
    have e3 : ((as ++ [(x, l)]).map fun p => V.ref p.1).length = n.flows.length + 1 := by
      rw [List.length_map, List.length_append, N.flows.len]
      rfl
    refine ⟨_, rfl, a, CN, d3, _, _, rfl, ha3, TN.cl, TN.flows, nf_flows rm fl, fl, _, rfl, .inl (SqL.of N3.flows.lst), n.flows.length + 1, 1, (by rw [e3]), rfl, (by omega), ?_⟩
    refine k.one N3 (fun c hc => ?_) rfl
    have hf := old_flows N hc
    obtain ⟨h1, o, eo, ni⟩ := hc
    have cx : c ≠ x := ne_of_none eo nx
    have cl : c ≠ l := ne_of_none eo nl0
    have cf : c ≠ fl := fun q => h1 (.inr (.inl q))
    refine ⟨?_, ?_⟩
    · rintro (q | q | ⟨p', hp, q⟩)
      · exact h1 (.inl q)
      · exact h1 (.inr (.inl q))
      · rcases List.mem_append.mp hp with z | z
        · exact h1 (.inr (.inr ⟨p', z, q⟩))
        · have e : p' = (x, l) := by simpa using z
          rw [e] at q
          exact cl q.symm
    · rw [eo]
      refine fr c o (by rw [upd_ne cf]; exact sm _ _ eo) fun p' hp q => ?_
      rcases List.mem_append.mp hp with z | z
      · exact hf p' z q
      · have e : p' = (x, l) := by simpa using z
        rw [e] at q
        exact cx q.symm

/-! ### sn_wish -/
def wished (f : Km357.Flow) (m : Nat) : Km357.Flow := { f with wish := { f.wish with most := m } }
theorem nWish_bad {n : Km357.Net} {i m : Nat} (h : 200 < m) : Km357.nDoes n (.wish i m) = (n, Km357.only (-22)) := if_pos h
theorem nWish_none {n : Km357.Net} {i m : Nat} (h : ¬ 200 < m) (hi : n.flows.length ≤ i) : Km357.nDoes n (.wish i m) = (n, Km357.only (-2)) := by
  refine (if_neg h).trans ?_
  rw [List.getElem?_eq_none hi]
theorem nWish_ok {n : Km357.Net} {i m : Nat} {f : Km357.Flow} (h : ¬ 200 < m) (hi : n.flows[i]? = some f) : Km357.nDoes n (.wish i m) = ((NM.put n i (wished f m)).plan, Km357.only 0) := by
  refine (if_neg h).trans ?_
  rw [hi]
  rfl
/-- behind a changed flow, then plan -/
theorem old_put {H H2 H3 : Hp} {a rm fl : Addr} {as : List (Addr × Addr)} {n : Km357.Net} (N : NetAt C CN H a rm fl as n) {i : Nat} {b l : Addr} (hi : as[i]? = some (b, l)) {H1 : Hp} (s : Same H H1) (kp : ∀ c o, H1 c = some o → c ≠ b → H2 c = some o)
    (fr : ∀ c o, H2 c = some o → (∀ p ∈ as, p.1 ≠ c) → H3 c = some o) : ∀ c, Old C CN H rm fl as c → ¬ Foot rm fl as c ∧ H3 c = H c := fun c hc => by
  have hf := old_flows N hc
  obtain ⟨h1, o, eo, ni⟩ := hc
  refine ⟨h1, ?_⟩
  rw [eo]
  exact fr c o (kp c o (s _ _ eo) fun q => hf _ (List.mem_of_getElem? hi) q.symm) hf
abbrev s_sn_wish : Stmt := inClass (top 37) 3
theorem sc_sn_wish : FnScope ["self", "flow", "most"] ["self", "flow", "most"] (defScope s_sn_wish) := ⟨rfl, rfl, rfl, by decide +kernel, rfl, by decide +kernel, by decide +kernel⟩

def sp_sn_wish (C CN : Addr) : Sp := fun vs H Q _ => ∃ (a rm fl : Addr) (as : List (Addr × Addr)) (n : Km357.Net) (i m : Nat), vs = [.ref a, .int (i : Int), .int (m : Int)] ∧ NetAt C CN H a rm fl as n ∧ NPost C CN H a rm fl as (Km357.nDoes n (.wish i m)) Q
theorem ok_sn_wish {f : Addr} {fd : FuncData} (hC : C ≠ CN) (X : Txt mg) (TF : ClsF K C) (TN : ClsN K CN) (B : Blt mg) (Fn : Fun K "sn_wish" "Net.sn_wish" s_sn_wish f fd)
    (m_plan : HasM P w K mg base CN "plan" 4 ["self"] (sp_plan C CN)) : FnOk P w K mg base CX0 5 f fd ["self", "flow", "most"] (sp_sn_wish C CN) := by
  have T := X
  refine Fn.ok sc_sn_wish (fun vs H Q E h => ?_) (fun cdv A outer s H vs Q E hr h => ?_)
  · obtain ⟨a, rm, fl, as, n, i, m, rfl, _⟩ := h
    rfl
  · obtain ⟨a, rm, fl, as, n, i, m, rfl, N, k⟩ := h
    obtain ⟨dx, ha⟩ := N.ins
    refine ⟨_, (pss_cons (ps_if (pt_cmpR op_gtN (pv 2) (pe_num T.MOST_UNITS rfl) (nomark _)) (pss_one (ps_ret (pe_lst (pa_cons (pe_num T.INVALID rfl) pa_nil)))) pss_nil) (pss_cons (ps_if (pt_cmpR op_geN (pv 1) (pe_callB call_len_seq (by rfl) B.len PySem.boot_len (pa_cons (pe_fld (pv 0) (by rfl)) pa_nil)) (nomark _)) (pss_one (ps_ret (pe_lst (pa_cons (pe_num T.NO_SUCH_FLOW rfl) pa_nil)))) pss_nil) (pss_cons (ps_fld (pe_ix ix_list (pe_fld (pv 0) (by rfl)) (pv 1) (fun _ _ => rfl)) (pv 2) (by rfl)) (pss_cons (ps_expr (pe_hasm0 m_plan hr (by decide) (pv 0))) (pss_one (ps_ret (pe_lst (pa_cons pe_int pa_nil)))))))), ?_⟩
    refine ⟨_, rfl, m, 200, rfl, rfl, _, rfl, ?_⟩
    refine iteD (fun c => ?_) (fun c1 => ?_)
    · rw [nWish_bad c] at k
      exact k.one N (old_same fun _ _ e => e) rfl
    refine ⟨_, rfl, _, rfl, a, CN, dx, _, _, rfl, ha, TN.cl, TN.flows, nf_flows rm fl, fl, _, rfl, .inl (SqL.of N.flows.lst), i, n.flows.length, rfl, (by rw [N.elen]), _, rfl, ?_⟩
    refine iteD (fun c => ?_) (fun c2 => ?_)
    · rw [nWish_none c1 c] at k
      exact k.one N (old_same fun _ _ e => e) rfl
    obtain ⟨f, hf⟩ : ∃ f, n.flows[i]? = some f := ⟨_, List.getElem?_eq_getElem (Nat.not_le.mp c2)⟩
    rw [nWish_ok c1 hf] at k
    obtain ⟨b, l, has, hat, Fb⟩ := N.flows.get hf
    obtain ⟨db, eb⟩ := Fb.ins
    refine ⟨_, rfl, _, rfl, a, CN, dx, _, _, rfl, ha, TN.cl, TN.flows, nf_flows rm fl, _, rfl, fl, _, _, _, rfl, rfl, SqL.of N.flows.lst, hat, b, C, db, _, rfl, eb, TF.cl, TF.wish, (by show 6 < 1000; decide), ?_⟩
    rw [ff_putWish]
    have kp : ∀ c o, H c = some o → c ≠ b → upd H b (.ins C db (ff l (wished f m))) c = some o := fun c o e hc => by
      rw [upd_ne hc]
      exact e
    have N2 : NetAt C CN (upd H b (.ins C db (ff l (wished f m)))) a rm fl as (NM.put n i (wished f m)) := N.put hC has hf ⟨⟨db, upd_same⟩, by rw [upd_ne Fb.ne]; exact Fb.lin⟩ rfl (by show m ≤ 200; omega) kp
    obtain ⟨d2, ha2⟩ := N2.ins
    refine ⟨_, rfl, a, d2, _, rfl, ha2, noPlan rm fl, a, rm, fl, as, _, rfl, N2, fun H3 N3 fr => ?_⟩
    exact k.one N3 (old_put N has (fun _ _ e => e) kp fr) rfl

/-! ### sn_say -/
theorem nSay_none {n : Km357.Net} {i : Nat} (hi : n.flows.length ≤ i) : Km357.nDoes n (.nSay i) = (n, Km357.only (-2)) := by
  show (n, _) = _
  rw [List.getElem?_eq_none hi]
theorem nSay_zero {n : Km357.Net} {i : Nat} {f : Km357.Flow} (hi : n.flows[i]? = some f) (h : f.number = 0) : Km357.nDoes n (.nSay i) = (n, Km357.only (-61)) := by
  show (n, _) = _
  rw [hi]
  exact congrArg (Prod.mk n) (if_pos h)
theorem nSay_ok {n : Km357.Net} {i : Nat} {f : Km357.Flow} (hi : n.flows[i]? = some f) (h : ¬ f.number = 0) : Km357.nDoes n (.nSay i) = (n, { value := 0, out := (⟨1, i, f.number, f.told⟩ : Km357.Message).bytes }) := by
  show (n, _) = _
  rw [hi]
  exact congrArg (Prod.mk n) (if_neg h)
theorem bytes_len (m : Km357.Message) : m.bytes.length = 16 := by
  unfold Km357.Message.bytes Km357.checked
  rw [List.length_append, List.length_append, List.length_append, le4_len, le4_len, le4_len]
  rfl
theorem told_bytes (l : List Nat) : ([.int 0] : List V) ++ vN l = (Km357Neutral.told { value := 0, out := l }).map V.int := by
  rw [vN_ints]
  rfl
abbrev s_sn_say : Stmt := inClass (top 37) 4
theorem sc_sn_say : FnScope ["self", "flow", "asked"] ["self", "flow"] (defScope s_sn_say) := ⟨rfl, rfl, rfl, by decide +kernel, rfl, by decide +kernel, by decide +kernel⟩

def sp_sn_say (C CN : Addr) : Sp := fun vs H Q _ => ∃ (a rm fl : Addr) (as : List (Addr × Addr)) (n : Km357.Net) (i : Nat), vs = [.ref a, .int (i : Int)] ∧ NetAt C CN H a rm fl as n ∧ NPost C CN H a rm fl as (Km357.nDoes n (.nSay i)) Q
theorem ok_sn_say {f : Addr} {fd : FuncData} (X : Txt mg) (TF : ClsF K C) (TN : ClsN K CN) (B : Blt mg) (Fn : Fun K "sn_say" "Net.sn_say" s_sn_say f fd)
    (h_message_of : Has P w K mg base "message_of" 2 ["kind", "flow", "number", "share"] sp_msg) : FnOk P w K mg base CX0 3 f fd ["self", "flow"] (sp_sn_say C CN) := by
  have T := X
  refine Fn.ok sc_sn_say (fun vs H Q E h => ?_) (fun cdv A outer s H vs Q E hr h => ?_)
  · obtain ⟨a, rm, fl, as, n, i, rfl, _⟩ := h
    rfl
  · obtain ⟨a, rm, fl, as, n, i, rfl, N, k⟩ := h
    obtain ⟨dx, ha⟩ := N.ins
    refine ⟨_, (pss_cons (ps_if (pt_cmpR op_geN (pv 1) (pe_callB call_len_seq (by rfl) B.len PySem.boot_len (pa_cons (pe_fld (pv 0) (by rfl)) pa_nil)) (nomark _)) (pss_one (ps_ret (pe_lst (pa_cons (pe_num T.NO_SUCH_FLOW rfl) pa_nil)))) pss_nil) (pss_cons (ps_set (i := 2) sc_sn_say.nd rfl (Or.inl rfl) (pe_ix ix_list (pe_fld (pv 0) (by rfl)) (pv 1) (fun _ _ => rfl))) (pss_cons (ps_if (pt_cmpR op_eqN (pe_fld (pv 2) (by rfl)) pe_int (nomark _)) (pss_one (ps_ret (pe_lst (pa_cons (pe_num T.NOTHING_YET rfl) pa_nil)))) pss_nil) (pss_one (ps_ret (pe_op op_cat (pe_lst (pa_cons pe_int pa_nil)) (pe_has h_message_of hr (by decide) rfl (pa_cons (pe_num T.TO_SOURCE rfl) (pa_cons (pv 1) (pa_cons (pe_fld (pv 2) (by rfl)) (pa_cons (pe_fld (pv 2) (by rfl)) pa_nil))))))))))), ?_⟩
    refine ⟨_, rfl, _, rfl, a, CN, dx, _, _, rfl, ha, TN.cl, TN.flows, nf_flows rm fl, fl, _, rfl, .inl (SqL.of N.flows.lst), i, n.flows.length, rfl, (by rw [N.elen]), _, rfl, ?_⟩
    refine iteD (fun c => ?_) (fun c2 => ?_)
    · rw [nSay_none c] at k
      exact k.one N (old_same fun _ _ e => e) rfl
    obtain ⟨f, hf⟩ : ∃ f, n.flows[i]? = some f := ⟨_, List.getElem?_eq_getElem (Nat.not_le.mp c2)⟩
    obtain ⟨b, l, has, hat, Fb⟩ := N.flows.get hf
    obtain ⟨db, eb⟩ := Fb.ins
    refine ⟨_, rfl, a, CN, dx, _, _, rfl, ha, TN.cl, TN.flows, nf_flows rm fl, _, rfl, fl, _, _, _, rfl, rfl, SqL.of N.flows.lst, hat, ?_⟩
    refine ⟨_, rfl, b, C, db, _, _, rfl, eb, TF.cl, TF.number, ff_number l f, f.number, 0, rfl, rfl, _, rfl, ?_⟩
    refine iteD (fun c => ?_) (fun c3 => ?_)
    · rw [nSay_zero hf c] at k
      exact k.one N (old_same fun _ _ e => e) rfl
    rw [nSay_ok hf c3] at k
    refine ⟨(by show 1 ≤ sizeLine; decide), fun p0 hp0 => ?_⟩
    have s0 : Same H (upd H p0 (.lst [.int 0])) := Same.upd hp0
    refine ⟨_, rfl, _, rfl, b, C, db, _, _, rfl, s0 _ _ eb, TF.cl, TF.number, ff_number l f, _, rfl, b, C, db, _, _, rfl, s0 _ _ eb, TF.cl, TF.told, ff_told l f, 1, i, f.number, f.told, rfl, fun H1 l1 n1 e1 s1 => ?_⟩
    refine ⟨p0, l1, _, _, rfl, rfl, s1 _ _ upd_same, e1, (by rw [vN_length, bytes_len]; show 1 + 16 ≤ sizeLine; decide), ?_⟩
    exact k.list (N.same (s0.trans s1)) (old_same (s0.trans s1)) (told_bytes _)

/-! ### sn_heard -/
theorem nHeard_bad {n : Km357.Net} {l : List Nat} (h16 : l.length = 16) (hb : ∀ b ∈ l, b < 256) (h : ¬ (NM.Right l ∧ Km357.at_ l 1 < n.flows.length ∧ Km357.at_ l 0 = 2)) : Km357.nDoes n (.nHeard l) = (n, Km357.only (-71)) := by
  show (match Km357.messageOf l with | none => _ | some m => _) = _
  rw [NM.messageOf_eq h16 hb]
  by_cases c1 : NM.Right l
  · rw [if_pos c1]
    show (match n.flows[Km357.at_ l 1]? with | none => _ | some f => _) = _
    by_cases c2 : Km357.at_ l 1 < n.flows.length
    · rw [List.getElem?_eq_getElem c2]
      exact if_pos fun c3 => h ⟨c1, c2, c3⟩
    · rw [List.getElem?_eq_none (Nat.not_lt.mp c2)]
  · rw [if_neg c1]
theorem nHeard_some {n : Km357.Net} {l : List Nat} {f : Km357.Flow} (h16 : l.length = 16) (hb : ∀ b ∈ l, b < 256) (h : NM.Right l) (hf : n.flows[Km357.at_ l 1]? = some f) (h2 : Km357.at_ l 0 = 2) :
    Km357.nDoes n (.nHeard l) = if f.waits = true ∧ Km357.num l 4 4 = f.number then ((NM.put n (Km357.at_ l 1) { f with waits := false }).plan, Km357.only 1) else (n, Km357.only 0) := by
  show (match Km357.messageOf l with | none => _ | some m => _) = _
  rw [NM.messageOf_eq h16 hb, if_pos h]
  show (match n.flows[Km357.at_ l 1]? with | none => _ | some f => _) = _
  rw [hf]
  exact if_neg fun c => c h2
abbrev s_sn_heard : Stmt := inClass (top 37) 5
theorem sc_sn_heard : FnScope ["self", "message", "flow"] ["self", "message"] (defScope s_sn_heard) := ⟨rfl, rfl, rfl, by decide +kernel, rfl, by decide +kernel, by decide +kernel⟩

def sp_sn_heard (C CN : Addr) : Sp := fun vs H Q _ => ∃ (a b rm fl : Addr) (as : List (Addr × Addr)) (n : Km357.Net) (l : List Nat), vs = [.ref a, .ref b] ∧ NetAt C CN H a rm fl as n ∧ H b = some (.lst (vN l)) ∧ l.length = 16 ∧ (∀ b ∈ l, b < 256) ∧
  NPost C CN H a rm fl as (Km357.nDoes n (.nHeard l)) Q
theorem ok_sn_heard {f : Addr} {fd : FuncData} (hC : C ≠ CN) (X : Txt mg) (TF : ClsF K C) (TN : ClsN K CN) (B : Blt mg) (Fn : Fun K "sn_heard" "Net.sn_heard" s_sn_heard f fd)
    (h_is_right : Has P w K mg base "is_right" 2 ["message"] (sp_right K)) (h_number_in : Has P w K mg base "number_in" 1 ["message", "at"] (sp_num K)) (m_plan : HasM P w K mg base CN "plan" 4 ["self"] (sp_plan C CN)) :
    FnOk P w K mg base CX0 5 f fd ["self", "message"] (sp_sn_heard C CN) := by
  have T := X
  refine Fn.ok sc_sn_heard (fun vs H Q E h => ?_) (fun cdv A outer s H vs Q E hr h => ?_)
  · obtain ⟨a, b, rm, fl, as, n, l, rfl, _⟩ := h
    rfl
  · obtain ⟨a, c0, rm, fl, as, n, l, rfl, N, hM, h16, hb, k⟩ := h
    refine ⟨_, (pss_cons (ps_if (PW.pt (pw_or (pt_not (pt_truth (pe_has h_is_right hr (by decide) rfl (pa_cons (pv 1) pa_nil)) (fun _ => rfl))) (pw_or (pt_cmpR op_geN (pe_ix ix_list (pv 1) pe_int (fun _ _ => rfl)) (pe_callB call_len_seq (by rfl) B.len PySem.boot_len (pa_cons (pe_fld (pv 0) (by rfl)) pa_nil)) (nomark _)) (pw_or1 (pt_cmpR op_neN (pe_ix ix_list (pv 1) pe_int (fun _ _ => rfl)) (pe_num T.FROM_SOURCE rfl) (nomark _)))))) (pss_one (ps_ret (pe_lst (pa_cons (pe_num T.NOT_RIGHT rfl) pa_nil)))) pss_nil) (pss_cons (ps_set (i := 2) sc_sn_heard.nd rfl (Or.inl rfl) (pe_ix ix_list (pe_fld (pv 0) (by rfl)) (pe_ix ix_list (pv 1) pe_int (fun _ _ => rfl)) (fun _ _ => rfl))) (pss_cons (ps_if (PW.pt (pw_or (pt_not (pt_truth (pe_fld (pv 2) (by rfl)) (fun _ => rfl))) (pw_or1 (pt_cmpR op_neN (pe_has h_number_in hr (by decide) rfl (pa_cons (pv 1) (pa_cons (pe_num T.NUMBER_AT rfl) pa_nil))) (pe_fld (pv 2) (by rfl)) (nomark _))))) (pss_one (ps_ret (pe_lst (pa_cons pe_int pa_nil)))) pss_nil) (pss_cons (ps_fld (pv 2) pe_bl (by rfl)) (pss_cons (ps_expr (pe_hasm0 m_plan hr (by decide) (pv 0))) (pss_one (ps_ret (pe_lst (pa_cons pe_int pa_nil))))))))), ?_⟩
    refine ⟨_, rfl, c0, l, rfl, SqL.of hM, h16, hb, fun H1 s1 => ⟨_, rfl, ?_⟩⟩
    have N1 := N.same s1
    have hM1 := s1 _ _ hM
    obtain ⟨dx, ha⟩ := N1.ins
    have bad : ¬ (NM.Right l ∧ Km357.at_ l 1 < n.flows.length ∧ Km357.at_ l 0 = 2) → ([V.int (-71)].length ≤ sizeLine) ∧ ∀ p, H1 p = none → Q (.ref p) (upd H1 p (.lst [.int (-71)])) := fun h => by
      rw [nHeard_bad h16 hb h] at k
      exact k.one N1 (old_same s1) rfl
    refine iteDn (fun c => bad fun h => c h.1) (fun c1 => ?_)
    refine ⟨_, rfl, c0, _, _, _, rfl, rfl, SqL.of hM1, atN (j := 1) (by omega), _, rfl, a, CN, dx, _, _, rfl, ha, TN.cl, TN.flows, nf_flows rm fl, fl, _, rfl, .inl (SqL.of N1.flows.lst), Km357.at_ l 1, n.flows.length, rfl, (by rw [N.elen]), _, rfl, ?_⟩
    refine iteD (fun c => bad fun h => by have := h.2.1; omega) (fun c2 => ?_)
    refine ⟨_, rfl, c0, _, _, _, rfl, rfl, SqL.of hM1, atN (j := 0) (by omega), Km357.at_ l 0, 2, rfl, rfl, _, rfl, ?_⟩
    refine iteDn (fun c => bad fun h => c h.2.2) (fun c3 => ?_)
    obtain ⟨f, hf⟩ : ∃ f, n.flows[Km357.at_ l 1]? = some f := ⟨_, List.getElem?_eq_getElem (Nat.not_le.mp c2)⟩
    rw [nHeard_some h16 hb c1 hf c3] at k
    obtain ⟨b, r, has, hat, Fb⟩ := N1.flows.get hf
    obtain ⟨db, eb⟩ := Fb.ins
    refine ⟨_, rfl, a, CN, dx, _, _, rfl, ha, TN.cl, TN.flows, nf_flows rm fl, _, rfl, c0, _, _, _, rfl, rfl, SqL.of hM1, atN (j := 1) (by omega), fl, _, _, _, rfl, rfl, SqL.of N1.flows.lst, hat, ?_⟩
    refine ⟨_, rfl, b, C, db, _, _, rfl, eb, TF.cl, TF.waits, ff_waits r f, f.waits, rfl, ?_⟩
    have no : ¬ (f.waits = true ∧ Km357.num l 4 4 = f.number) → ([V.int 0].length ≤ sizeLine) ∧ ∀ p, H1 p = none → Q (.ref p) (upd H1 p (.lst [.int 0])) := fun h => by
      rw [if_neg h] at k
      exact k.one N1 (old_same s1) rfl
    cases hw : f.waits with
    | false => exact iteT (no fun h => by rw [hw] at h; cases h.1)
    | true =>
      refine iteF ?_
      refine ⟨_, rfl, c0, 4, l, rfl, SqL.of hM1, by omega, hb, _, rfl, b, C, db, _, _, rfl, eb, TF.cl, TF.number, ff_number r f, Km357.num l 4 4, f.number, rfl, rfl, _, rfl, ?_⟩
      refine iteDn (fun c => no fun h => c h.2) (fun c4 => ?_)
      rw [if_pos ⟨hw, c4⟩] at k
      refine ⟨_, rfl, b, C, db, _, rfl, eb, TF.cl, TF.waits, (by show 6 < 1000; decide), ?_⟩
      rw [ff_putWaits]
      have kp : ∀ c o, H1 c = some o → c ≠ b → upd H1 b (.ins C db (ff r { f with waits := false })) c = some o := fun c o e hc => by
        rw [upd_ne hc]
        exact e
      have N2 : NetAt C CN (upd H1 b (.ins C db (ff r { f with waits := false }))) a rm fl as (NM.put n (Km357.at_ l 1) { f with waits := false }) := N1.put hC has hf ⟨⟨db, upd_same⟩, by rw [upd_ne Fb.ne]; exact Fb.lin⟩ rfl (N.ok.at hf).2.2 kp
      obtain ⟨d2, ha2⟩ := N2.ins
      refine ⟨_, rfl, a, d2, _, rfl, ha2, noPlan rm fl, a, rm, fl, as, _, rfl, N2, fun H3 N3 fr => ?_⟩
      exact k.one N3 (old_put N has s1 kp fr) rfl

/-! ### sn_of -/
theorem nOf_none {n : Km357.Net} {i : Nat} (hi : n.flows.length ≤ i) : Km357.nDoes n (.of_ i) = (n, Km357.only (-2)) := by
  show (n, _) = _
  rw [List.getElem?_eq_none hi]
theorem nOf_ok {n : Km357.Net} {i : Nat} {f : Km357.Flow} (hi : n.flows[i]? = some f) : Km357.nDoes n (.of_ i) = (n, { value := if f.waits = true then 1 else 0, out := [f.told, Km357.at_ n.fair i, f.bound] }) := by
  show (n, _) = _
  rw [hi]
abbrev s_sn_of : Stmt := inClass (top 37) 6
theorem sc_sn_of : FnScope ["self", "flow", "asked", "fair"] ["self", "flow"] (defScope s_sn_of) := ⟨rfl, rfl, rfl, by decide +kernel, rfl, by decide +kernel, by decide +kernel⟩

def sp_sn_of (C CN : Addr) : Sp := fun vs H Q _ => ∃ (a rm fl : Addr) (as : List (Addr × Addr)) (n : Km357.Net) (i : Nat), vs = [.ref a, .int (i : Int)] ∧ NetAt C CN H a rm fl as n ∧ NPost C CN H a rm fl as (Km357.nDoes n (.of_ i)) Q
theorem ok_sn_of {f : Addr} {fd : FuncData} (X : Txt mg) (TF : ClsF K C) (TN : ClsN K CN) (B : Blt mg) (Fn : Fun K "sn_of" "Net.sn_of" s_sn_of f fd)
    (h_fair_shares : Has P w K mg base "fair_shares" 3 ["room", "flows"] (sp_fair K C)) (m_may_use : HasM P w K mg base C "may_use" 1 ["self"] (sp_use C)) : FnOk P w K mg base CX0 4 f fd ["self", "flow"] (sp_sn_of C CN) := by
  have T := X
  refine Fn.ok sc_sn_of (fun vs H Q E h => ?_) (fun cdv A outer s H vs Q E hr h => ?_)
  · obtain ⟨a, rm, fl, as, n, i, rfl, _⟩ := h
    rfl
  · obtain ⟨a, rm, fl, as, n, i, rfl, N, k⟩ := h
    obtain ⟨dx, ha⟩ := N.ins
    refine ⟨_, (pss_cons (ps_if (pt_cmpR op_geN (pv 1) (pe_callB call_len_seq (by rfl) B.len PySem.boot_len (pa_cons (pe_fld (pv 0) (by rfl)) pa_nil)) (nomark _)) (pss_one (ps_ret (pe_lst (pa_cons (pe_num T.NO_SUCH_FLOW rfl) pa_nil)))) pss_nil) (pss_cons (ps_set (i := 2) sc_sn_of.nd rfl (Or.inl rfl) (pe_ix ix_list (pe_fld (pv 0) (by rfl)) (pv 1) (fun _ _ => rfl))) (pss_cons (ps_set (i := 3) sc_sn_of.nd rfl (Or.inl rfl) (pe_has h_fair_shares hr (by decide) rfl (pa_cons (pe_fld (pv 0) (by rfl)) (pa_cons (pe_fld (pv 0) (by rfl)) pa_nil)))) (pss_one (ps_ret (pe_lst (pa_cons (pe_ifExp (pt_truth (pe_fld (pv 2) (by rfl)) (fun _ => rfl)) pe_int pe_int) (pa_cons (pe_fld (pv 2) (by rfl)) (pa_cons (pe_ix ix_list (pv 3) (pv 1) (fun _ _ => rfl)) (pa_cons (pe_hasm0 m_may_use hr (by decide) (pv 2)) pa_nil)))))))))), ?_⟩
    refine ⟨_, rfl, _, rfl, a, CN, dx, _, _, rfl, ha, TN.cl, TN.flows, nf_flows rm fl, fl, _, rfl, .inl (SqL.of N.flows.lst), i, n.flows.length, rfl, (by rw [N.elen]), _, rfl, ?_⟩
    refine iteD (fun c => ?_) (fun c2 => ?_)
    · rw [nOf_none c] at k
      exact k.one N (old_same fun _ _ e => e) rfl
    have li : i < n.flows.length := Nat.not_le.mp c2
    obtain ⟨f, hf⟩ : ∃ f, n.flows[i]? = some f := ⟨_, List.getElem?_eq_getElem li⟩
    rw [nOf_ok hf] at k
    obtain ⟨b, l, has, hat, Fb⟩ := N.flows.get hf
    refine ⟨_, rfl, a, CN, dx, _, _, rfl, ha, TN.cl, TN.flows, nf_flows rm fl, _, rfl, fl, _, _, _, rfl, rfl, SqL.of N.flows.lst, hat, ?_⟩
    refine ⟨_, rfl, a, CN, dx, _, _, rfl, ha, TN.cl, TN.room, nf_room rm fl, _, rfl, a, CN, dx, _, _, rfl, ha, TN.cl, TN.flows, nf_flows rm fl, rm, fl, as, n.room, n.flows, rfl, SqL.of N.room, N.flows, N.ok, fun H1 S nS hS sm1 => ?_⟩
    have hS : H1 S = some (.lst (vN n.fair)) := hS
    have Fb1 := Fb.same sm1
    obtain ⟨db, eb⟩ := Fb1.ins
    have noMay : (ff l f).lookup ("may_use" : Str) = none := ff_no l f (by decide +kernel) (by decide +kernel) (by decide +kernel) (by decide +kernel) (by decide +kernel) (by decide +kernel)
    have tl := NM.fair_len n
    refine ⟨_, rfl, b, C, db, _, _, rfl, eb, TF.cl, TF.waits, ff_waits l f, f.waits, rfl, ?_⟩
    cases hw : f.waits with
    | true =>
      refine iteT ?_
      rw [hw] at k
      refine ⟨_, rfl, b, C, db, _, _, rfl, eb, TF.cl, TF.told, ff_told l f, _, rfl, _, rfl, S, _, _, _, rfl, rfl, SqL.of hS, atN (by rw [tl]; exact li), _, rfl, b, db, _, rfl, eb, noMay, b, l, f, rfl, Fb1, (by show 4 ≤ sizeLine; decide), ?_⟩
      exact k.list (N.same sm1) (old_same sm1) rfl
    | false =>
      refine iteF ?_
      rw [hw] at k
      refine ⟨_, rfl, b, C, db, _, _, rfl, eb, TF.cl, TF.told, ff_told l f, _, rfl, _, rfl, S, _, _, _, rfl, rfl, SqL.of hS, atN (by rw [tl]; exact li), _, rfl, b, db, _, rfl, eb, noMay, b, l, f, rfl, Fb1, (by show 4 ≤ sizeLine; decide), ?_⟩
      exact k.list (N.same sm1) (old_same sm1) rfl
end
end NB
set_option Elab.async false
set_option linter.all false
set_option maxRecDepth 100000
set_option maxHeartbeats 2000000
namespace NB
open PySem PySem.Spec PyProof.Rows L2
/-! ### a source -/
def sf (s : Km357.Source) : List (Str × V) := [("flow", .int (s.me : Nat)), ("number", .int (s.number : Nat)), ("share", .int (s.share : Nat))]
section
variable (s : Km357.Source)
theorem sf_flow : (sf s).lookup ("flow" : Str) = some (V.int (s.me : Nat)) := lk_hd
theorem sf_number : (sf s).lookup ("number" : Str) = some (V.int (s.number : Nat)) := (lk_tl (by decide +kernel)).trans lk_hd
theorem sf_share : (sf s).lookup ("share" : Str) = some (V.int (s.share : Nat)) := (lk_tl (by decide +kernel)).trans ((lk_tl (by decide +kernel)).trans lk_hd)
theorem sf_no {m : Str} (h1 : (m == "flow") = false) (h2 : (m == "number") = false) (h3 : (m == "share") = false) : (sf s).lookup m = none := by
  unfold sf
  rw [lk_tl h1, lk_tl h2, lk_tl h3]
  rfl
theorem sf_putFlow (x : Nat) : putF "flow" (.int (x : Int)) (sf s) = sf { s with me := x } := by
  unfold sf
  rw [pf_hd]
theorem sf_putNumber (x : Nat) : putF "number" (.int (x : Int)) (sf s) = sf { s with number := x } := by
  unfold sf
  rw [pf_tl (by decide +kernel), pf_hd]
theorem sf_putShare (x : Nat) : putF "share" (.int (x : Int)) (sf s) = sf { s with share := x } := by
  unfold sf
  rw [pf_tl (by decide +kernel), pf_tl (by decide +kernel), pf_hd]
end
theorem sf_new : putF "share" (.int 0) (putF "number" (.int 0) (putF "flow" (.int 0) [])) = sf ⟨0, 0, 0⟩ := by
  rw [pf_nil, pf_tl (by decide +kernel), pf_nil, pf_tl (by decide +kernel), pf_tl (by decide +kernel), pf_nil]
  rfl
structure ClsS (K : PySem.W.Frag) (C : Addr) : Prop where
  cl : Cls K C
  flow : NoAttr K C "flow"
  number : NoAttr K C "number"
  share : NoAttr K C "share"
def SrcAt (CS : Addr) (H : Hp) (x : Addr) (s : Km357.Source) : Prop := ∃ dx, H x = some (.ins CS dx (sf s))
def SPost (CS : Addr) (H : Hp) (x : Addr) (y : Km357.Source × Km357.Ans) (Q : VK) : Prop :=
  ∀ (H' : Hp) (p : Addr), SrcAt CS H' x y.1 → (∀ c o, H c = some o → c ≠ x → H' c = some o) → H p = none → H' p = some (.lst ((Km357Neutral.told y.2).map V.int)) → Q (.ref p) H'
section
variable {CS : Addr} {H H1 : Hp} {x : Addr} {Q : VK} {y : Km357.Source × Km357.Ans}
theorem SPost.list (k : SPost CS H x y Q) (S : SrcAt CS H1 x y.1) (kp : ∀ c o, H c = some o → c ≠ x → H1 c = some o) {xs : List V} (e : xs = (Km357Neutral.told y.2).map V.int) (h0 : H x ≠ none) :
    ∀ p, H1 p = none → Q (.ref p) (upd H1 p (.lst xs)) := fun p hp => by
  subst e
  obtain ⟨dx, ex⟩ := S
  have nx : x ≠ p := ne_of_none ex hp
  have np : H p = none := by
    cases q : H p with
    | none => rfl
    | some o =>
      rw [kp p o q nx.symm] at hp
      cases hp
  refine k _ p ⟨dx, by rw [upd_ne nx]; exact ex⟩ (fun c o e hc => ?_) np upd_same
  rw [upd_ne (ne_of_none e np)]
  exact kp c o e hc
theorem SPost.one (k : SPost CS H x y Q) (S : SrcAt CS H1 x y.1) (kp : ∀ c o, H c = some o → c ≠ x → H1 c = some o) {v : Int} (e : Km357Neutral.told y.2 = [v]) (h0 : H x ≠ none) :
    ([V.int v].length ≤ sizeLine) ∧ ∀ p, H1 p = none → Q (.ref p) (upd H1 p (.lst [.int v])) :=
  ⟨by show 1 ≤ sizeLine; decide, k.list S kp (by rw [e]; rfl) h0⟩
end
section
variable {P : Program} {w : World} {K : PySem.W.Frag} {mg : Str → Option Value} {base : Heap} {CS : Addr}
abbrev s_Source_init : Stmt := inClass (top 38) 0
theorem sc_Source_init : FnScope ["self"] ["self"] (defScope s_Source_init) := ⟨rfl, rfl, rfl, by decide +kernel, rfl, by decide +kernel, by decide +kernel⟩

def sp_Source (CS : Addr) : Sp := fun vs H Q _ => ∃ (x dx : Addr), vs = [.ref x] ∧ H x = some (.ins CS dx []) ∧
  ∀ (H' : Hp), SrcAt CS H' x ⟨0, 0, 0⟩ → (∀ b o, H b = some o → b ≠ x → H' b = some o) → Q .non H'
theorem ok_Source {f : Addr} {fd : FuncData} (TS : ClsS K CS) (Fn : Fun K "__init__" "Source.__init__" s_Source_init f fd) : FnOk P w K mg base CX0 1 f fd ["self"] (sp_Source CS) := by
  refine Fn.ok sc_Source_init (fun vs H Q E h => ?_) (fun cdv A outer s H vs Q E hr h => ?_)
  · obtain ⟨x, dx, rfl, _⟩ := h
    rfl
  · obtain ⟨x, dx, rfl, hx, k⟩ := h
    refine ⟨_, (pss_cons (ps_fld (pv 0) pe_int (by rfl)) (pss_cons (ps_fld (pv 0) pe_int (by rfl)) (pss_one (ps_fld (pv 0) pe_int (by rfl))))), ?_⟩
    refine ⟨_, rfl, x, CS, dx, _, rfl, hx, TS.cl, TS.flow, (by show 0 < 1000; decide), ?_⟩
    refine ⟨_, rfl, x, CS, dx, _, rfl, upd_same, TS.cl, TS.number, (Nat.lt_of_le_of_lt (length_putF _ _ _) (by show 1 < 1000; decide)), ?_⟩
    refine ⟨_, rfl, x, CS, dx, _, rfl, upd_same, TS.cl, TS.share, ?_, ?_⟩
    · exact Nat.lt_of_le_of_lt (len_put (len_put (Nat.le_refl 0))) (by decide)
    rw [upd_upd, upd_upd, sf_new]
    exact k _ ⟨dx, upd_same⟩ fun b o e hb => by rw [upd_ne hb]; exact e

/-! ### ss_start -/
theorem sStart_bad {s : Km357.Source} {me : Nat} (h : 16 ≤ me) : Km357.sDoes s (.sStart me) = (s, Km357.only (-22)) := if_pos h
theorem sStart_ok {s : Km357.Source} {me : Nat} (h : ¬ 16 ≤ me) : Km357.sDoes s (.sStart me) = (⟨me, 0, 0⟩, Km357.only 0) := if_neg h
abbrev s_ss_start : Stmt := inClass (top 38) 1
theorem sc_ss_start : FnScope ["self", "me"] ["self", "me"] (defScope s_ss_start) := ⟨rfl, rfl, rfl, by decide +kernel, rfl, by decide +kernel, by decide +kernel⟩

def sp_ss_start (CS : Addr) : Sp := fun vs H Q _ => ∃ (x : Addr) (s : Km357.Source) (me : Nat), vs = [.ref x, .int (me : Int)] ∧ SrcAt CS H x s ∧ SPost CS H x (Km357.sDoes s (.sStart me)) Q
theorem ok_ss_start {f : Addr} {fd : FuncData} (T : Txt mg) (TS : ClsS K CS) (Fn : Fun K "ss_start" "Source.ss_start" s_ss_start f fd) : FnOk P w K mg base CX0 1 f fd ["self", "me"] (sp_ss_start CS) := by
  refine Fn.ok sc_ss_start (fun vs H Q E h => ?_) (fun cdv A outer s H vs Q E hr h => ?_)
  · obtain ⟨x, s, me, rfl, _⟩ := h
    rfl
  · obtain ⟨x, s, me, rfl, S, k⟩ := h
    obtain ⟨dx, hx⟩ := S
    have h0 : H x ≠ none := fun q => by rw [hx] at q; cases q
    refine ⟨_, (pss_cons (ps_if (pt_cmpR op_geN (pv 1) (pe_num T.MOST_FLOWS rfl) (nomark _)) (pss_one (ps_ret (pe_lst (pa_cons (pe_num T.INVALID rfl) pa_nil)))) pss_nil) (pss_cons (ps_fld (pv 0) (pv 1) (by rfl)) (pss_cons (ps_fld (pv 0) pe_int (by rfl)) (pss_cons (ps_fld (pv 0) pe_int (by rfl)) (pss_one (ps_ret (pe_lst (pa_cons pe_int pa_nil)))))))), ?_⟩
    refine ⟨_, rfl, me, 16, rfl, rfl, _, rfl, ?_⟩
    refine iteD (fun c => ?_) (fun c1 => ?_)
    · rw [sStart_bad c] at k
      exact k.one ⟨dx, hx⟩ (fun _ _ e _ => e) rfl h0
    rw [sStart_ok c1] at k
    refine ⟨_, rfl, _, rfl, x, CS, dx, _, rfl, hx, TS.cl, TS.flow, (by show 3 < 1000; decide), ?_⟩
    rw [sf_putFlow]
    refine ⟨_, rfl, x, CS, dx, _, rfl, upd_same, TS.cl, TS.number, (by show 3 < 1000; decide), ?_⟩
    have e1 := sf_putNumber { s with me := me } 0
    have e1 : putF "number" (.int 0) (sf { s with me := me }) = sf { s with me := me, number := 0 } := e1
    rw [e1]
    refine ⟨_, rfl, x, CS, dx, _, rfl, upd_same, TS.cl, TS.share, (by show 3 < 1000; decide), ?_⟩
    have e2 : putF "share" (.int 0) (sf { s with me := me, number := 0 }) = sf ⟨me, 0, 0⟩ := sf_putShare { s with me := me, number := 0 } 0
    rw [e2, upd_upd, upd_upd]
    exact k.one ⟨dx, upd_same⟩ (fun c o e hc => by rw [upd_ne hc]; exact e) rfl h0

/-! ### ss_heard -/
theorem sHeard_bad {s : Km357.Source} {l : List Nat} (h16 : l.length = 16) (hb : ∀ b ∈ l, b < 256) (h : ¬ (NM.Right l ∧ Km357.at_ l 0 = 1 ∧ Km357.at_ l 1 = s.me)) : Km357.sDoes s (.sHeard l) = (s, Km357.only (-71)) := by
  show (match Km357.messageOf l with | none => _ | some m => _) = _
  rw [NM.messageOf_eq h16 hb]
  by_cases c1 : NM.Right l
  · rw [if_pos c1]
    refine if_pos ?_
    by_cases c2 : Km357.at_ l 0 = 1
    · exact .inr fun c3 => h ⟨c1, c2, c3⟩
    · exact .inl c2
  · rw [if_neg c1]
theorem sHeard_some {s : Km357.Source} {l : List Nat} (h16 : l.length = 16) (hb : ∀ b ∈ l, b < 256) (h : NM.Right l) (h1 : Km357.at_ l 0 = 1) (h2 : Km357.at_ l 1 = s.me) :
    Km357.sDoes s (.sHeard l) = if Km357.num l 4 4 ≤ s.number then (s, Km357.only 0) else ({ s with number := Km357.num l 4 4, share := Km357.num l 8 4 }, Km357.only 1) := by
  show (match Km357.messageOf l with | none => _ | some m => _) = _
  rw [NM.messageOf_eq h16 hb, if_pos h]
  refine if_neg ?_
  rintro (c | c)
  · exact c h1
  · exact c h2
abbrev s_ss_heard : Stmt := inClass (top 38) 2
theorem sc_ss_heard : FnScope ["self", "message", "number"] ["self", "message"] (defScope s_ss_heard) := ⟨rfl, rfl, rfl, by decide +kernel, rfl, by decide +kernel, by decide +kernel⟩

def sp_ss_heard (CS : Addr) : Sp := fun vs H Q _ => ∃ (x b : Addr) (s : Km357.Source) (l : List Nat), vs = [.ref x, .ref b] ∧ SrcAt CS H x s ∧ H b = some (.lst (vN l)) ∧ l.length = 16 ∧ (∀ b ∈ l, b < 256) ∧ SPost CS H x (Km357.sDoes s (.sHeard l)) Q
theorem ok_ss_heard {f : Addr} {fd : FuncData} (T : Txt mg) (TS : ClsS K CS) (Fn : Fun K "ss_heard" "Source.ss_heard" s_ss_heard f fd)
    (h_is_right : Has P w K mg base "is_right" 2 ["message"] (sp_right K)) (h_number_in : Has P w K mg base "number_in" 1 ["message", "at"] (sp_num K)) : FnOk P w K mg base CX0 3 f fd ["self", "message"] (sp_ss_heard CS) := by
  refine Fn.ok sc_ss_heard (fun vs H Q E h => ?_) (fun cdv A outer s H vs Q E hr h => ?_)
  · obtain ⟨x, b, s, l, rfl, _⟩ := h
    rfl
  · obtain ⟨x, c0, s, l, rfl, ⟨dx, hx0⟩, hM, h16, hb, k⟩ := h
    have h0 : H x ≠ none := fun q => by rw [hx0] at q; cases q
    refine ⟨_, (pss_cons (ps_if (PW.pt (pw_or (pt_not (pt_truth (pe_has h_is_right hr (by decide) rfl (pa_cons (pv 1) pa_nil)) (fun _ => rfl))) (pw_or (pt_cmpR op_neN (pe_ix ix_list (pv 1) pe_int (fun _ _ => rfl)) (pe_num T.TO_SOURCE rfl) (nomark _)) (pw_or1 (pt_cmpR op_neN (pe_ix ix_list (pv 1) pe_int (fun _ _ => rfl)) (pe_fld (pv 0) (by rfl)) (nomark _)))))) (pss_one (ps_ret (pe_lst (pa_cons (pe_num T.NOT_RIGHT rfl) pa_nil)))) pss_nil) (pss_cons (ps_set (i := 2) sc_ss_heard.nd rfl (Or.inl rfl) (pe_has h_number_in hr (by decide) rfl (pa_cons (pv 1) (pa_cons (pe_num T.NUMBER_AT rfl) pa_nil)))) (pss_cons (ps_if (pt_cmpR op_leN (pv 2) (pe_fld (pv 0) (by rfl)) (nomark _)) (pss_one (ps_ret (pe_lst (pa_cons pe_int pa_nil)))) pss_nil) (pss_cons (ps_fld (pv 0) (pv 2) (by rfl)) (pss_cons (ps_fld (pv 0) (pe_has h_number_in hr (by decide) rfl (pa_cons (pv 1) (pa_cons (pe_num T.SHARE_AT rfl) pa_nil))) (by rfl)) (pss_one (ps_ret (pe_lst (pa_cons pe_int pa_nil))))))))), ?_⟩
    refine ⟨_, rfl, c0, l, rfl, SqL.of hM, h16, hb, fun H1 s1 => ⟨_, rfl, ?_⟩⟩
    have hM1 := s1 _ _ hM
    have hx := s1 _ _ hx0
    have ncx : c0 ≠ x := ne_of hM1 hx (by intro q; cases q)
    have bad : ¬ (NM.Right l ∧ Km357.at_ l 0 = 1 ∧ Km357.at_ l 1 = s.me) → ([V.int (-71)].length ≤ sizeLine) ∧ ∀ p, H1 p = none → Q (.ref p) (upd H1 p (.lst [.int (-71)])) := fun h => by
      rw [sHeard_bad h16 hb h] at k
      exact k.one ⟨dx, hx⟩ (fun c o e _ => s1 c o e) rfl h0
    refine iteDn (fun c => bad fun h => c h.1) (fun c1 => ?_)
    refine ⟨_, rfl, c0, _, _, _, rfl, rfl, SqL.of hM1, atN (j := 0) (by omega), Km357.at_ l 0, 1, rfl, rfl, _, rfl, ?_⟩
    refine iteDn (fun c => bad fun h => c h.2.1) (fun c2 => ?_)
    refine ⟨_, rfl, c0, _, _, _, rfl, rfl, SqL.of hM1, atN (j := 1) (by omega), _, rfl, x, CS, dx, _, _, rfl, hx, TS.cl, TS.flow, sf_flow s, Km357.at_ l 1, s.me, rfl, rfl, _, rfl, ?_⟩
    refine iteDn (fun c => bad fun h => c h.2.2) (fun c3 => ?_)
    rw [sHeard_some h16 hb c1 c2 c3] at k
    refine ⟨_, rfl, c0, 4, l, rfl, SqL.of hM1, by omega, hb, ?_⟩
    refine ⟨_, rfl, _, rfl, x, CS, dx, _, _, rfl, hx, TS.cl, TS.number, sf_number s, Km357.num l 4 4, s.number, rfl, rfl, _, rfl, ?_⟩
    refine iteD (fun c => ?_) (fun c4 => ?_)
    · rw [if_pos c] at k
      exact k.one ⟨dx, hx⟩ (fun c o e _ => s1 c o e) rfl h0
    rw [if_neg c4] at k
    refine ⟨_, rfl, _, rfl, x, CS, dx, _, rfl, hx, TS.cl, TS.number, (by show 3 < 1000; decide), ?_⟩
    rw [sf_putNumber]
    refine ⟨_, rfl, c0, 8, l, rfl, SqL.of (by rw [upd_ne ncx]; exact hM1), by omega, hb, ?_⟩
    refine ⟨_, rfl, x, CS, dx, _, rfl, upd_same, TS.cl, TS.share, (by show 3 < 1000; decide), ?_⟩
    rw [sf_putShare, upd_upd]
    exact k.one ⟨dx, upd_same⟩ (fun c o e hc => by rw [upd_ne hc]; exact s1 c o e) rfl h0

/-! ### ss_say, ss_share -/
theorem sSay_zero {s : Km357.Source} (h : s.number = 0) : Km357.sDoes s .sSay = (s, Km357.only (-61)) := congrArg (Prod.mk s) (if_pos h)
theorem sSay_ok {s : Km357.Source} (h : ¬ s.number = 0) : Km357.sDoes s .sSay = (s, { value := 0, out := (⟨2, s.me, s.number, s.share⟩ : Km357.Message).bytes }) := congrArg (Prod.mk s) (if_neg h)
abbrev s_ss_say : Stmt := inClass (top 38) 3
theorem sc_ss_say : FnScope ["self"] ["self"] (defScope s_ss_say) := ⟨rfl, rfl, rfl, by decide +kernel, rfl, by decide +kernel, by decide +kernel⟩

def sp_ss_say (CS : Addr) : Sp := fun vs H Q _ => ∃ (x : Addr) (s : Km357.Source), vs = [.ref x] ∧ SrcAt CS H x s ∧ SPost CS H x (Km357.sDoes s .sSay) Q
theorem ok_ss_say {f : Addr} {fd : FuncData} (T : Txt mg) (TS : ClsS K CS) (Fn : Fun K "ss_say" "Source.ss_say" s_ss_say f fd)
    (h_message_of : Has P w K mg base "message_of" 2 ["kind", "flow", "number", "share"] sp_msg) : FnOk P w K mg base CX0 3 f fd ["self"] (sp_ss_say CS) := by
  refine Fn.ok sc_ss_say (fun vs H Q E h => ?_) (fun cdv A outer s H vs Q E hr h => ?_)
  · obtain ⟨x, s, rfl, _⟩ := h
    rfl
  · obtain ⟨x, s, rfl, ⟨dx, hx⟩, k⟩ := h
    have h0 : H x ≠ none := fun q => by rw [hx] at q; cases q
    refine ⟨_, (pss_cons (ps_if (pt_cmpR op_eqN (pe_fld (pv 0) (by rfl)) pe_int (nomark _)) (pss_one (ps_ret (pe_lst (pa_cons (pe_num T.NOTHING_YET rfl) pa_nil)))) pss_nil) (pss_one (ps_ret (pe_op op_cat (pe_lst (pa_cons pe_int pa_nil)) (pe_has h_message_of hr (by decide) rfl (pa_cons (pe_num T.FROM_SOURCE rfl) (pa_cons (pe_fld (pv 0) (by rfl)) (pa_cons (pe_fld (pv 0) (by rfl)) (pa_cons (pe_fld (pv 0) (by rfl)) pa_nil))))))))), ?_⟩
    refine ⟨_, rfl, x, CS, dx, _, _, rfl, hx, TS.cl, TS.number, sf_number s, s.number, 0, rfl, rfl, _, rfl, ?_⟩
    refine iteD (fun c => ?_) (fun c1 => ?_)
    · rw [sSay_zero c] at k
      exact k.one ⟨dx, hx⟩ (fun _ _ e _ => e) rfl h0
    rw [sSay_ok c1] at k
    refine ⟨(by show 1 ≤ sizeLine; decide), fun p0 hp0 => ?_⟩
    have s0 : Same H (upd H p0 (.lst [.int 0])) := Same.upd hp0
    have hx1 := s0 _ _ hx
    refine ⟨_, rfl, x, CS, dx, _, _, rfl, hx1, TS.cl, TS.flow, sf_flow s, _, rfl, x, CS, dx, _, _, rfl, hx1, TS.cl, TS.number, sf_number s, _, rfl, x, CS, dx, _, _, rfl, hx1, TS.cl, TS.share, sf_share s, 2, s.me, s.number, s.share, rfl, fun H1 l1 n1 e1 s1 => ?_⟩
    refine ⟨p0, l1, _, _, rfl, rfl, s1 _ _ upd_same, e1, (by rw [vN_length, bytes_len]; show 1 + 16 ≤ sizeLine; decide), ?_⟩
    exact k.list ⟨dx, s1 _ _ hx1⟩ (fun c o e _ => s1 _ _ (s0 _ _ e)) (told_bytes _) h0
abbrev s_ss_share : Stmt := inClass (top 38) 4
theorem sc_ss_share : FnScope ["self"] ["self"] (defScope s_ss_share) := ⟨rfl, rfl, rfl, by decide +kernel, rfl, by decide +kernel, by decide +kernel⟩

def sp_ss_share (CS : Addr) : Sp := fun vs H Q _ => ∃ (x : Addr) (s : Km357.Source), vs = [.ref x] ∧ SrcAt CS H x s ∧ SPost CS H x (Km357.sDoes s .share) Q
theorem ok_ss_share {f : Addr} {fd : FuncData} (TS : ClsS K CS) (Fn : Fun K "ss_share" "Source.ss_share" s_ss_share f fd) : FnOk P w K mg base CX0 1 f fd ["self"] (sp_ss_share CS) := by
  refine Fn.ok sc_ss_share (fun vs H Q E h => ?_) (fun cdv A outer s H vs Q E hr h => ?_)
  · obtain ⟨x, s, rfl, _⟩ := h
    rfl
  · obtain ⟨x, s, rfl, ⟨dx, hx⟩, k⟩ := h
    have h0 : H x ≠ none := fun q => by rw [hx] at q; cases q
    refine ⟨_, (pss_one (ps_ret (pe_lst (pa_cons (pe_fld (pv 0) (by rfl)) pa_nil)))), ?_⟩
    refine ⟨_, rfl, x, CS, dx, _, _, rfl, hx, TS.cl, TS.share, sf_share s, ?_⟩
    exact k.one ⟨dx, hx⟩ (fun _ _ e _ => e) rfl h0
end
end NB
set_option Elab.async false
set_option linter.all false
set_option maxRecDepth 100000
set_option maxHeartbeats 2000000
namespace NB
open PySem PySem.Spec PyProof.Rows L2
theorem iteB {b : Bool} {A B : Prop} (v : Bool) (e : b = v) (h : if v = true then A else B) : if b = true then A else B := by
  subst e
  exact h
theorem at_drop {N L : List Nat} {i j v : Nat} (h : N.drop i = L) (hv : L[j]? = some v) : atI (vN N) ((i + j : Nat) : Int) = some (.int (v : Int)) :=
  atI_nat (vN_at (by rw [← hv, ← h, List.getElem?_drop]))
theorem cut_drop (xs : List V) (k : Nat) : cutV xs (some (k : Int)) none = xs.drop k := by
  unfold cutV
  rw [HT.sIx_none, HT.sIx_nat]
  by_cases h : k ≤ xs.length
  · rw [Nat.min_eq_left h, List.take_of_length_le (by rw [List.length_drop]; exact Nat.le_refl _)]
  · rw [Nat.min_eq_right (by omega), List.drop_length, List.drop_eq_nil_of_le (by omega), List.take_nil]
theorem cut_both (xs : List V) (i m : Nat) (h : i + m ≤ xs.length) : cutV xs (some (i : Int)) (some ((i + m : Nat) : Int)) = (xs.drop i).take m := by
  unfold cutV
  rw [HT.sIx_nat, HT.sIx_nat, Nat.min_eq_left h, Nat.min_eq_left (show i ≤ xs.length by omega), Nat.add_sub_cancel_left]
section
variable {C CN CS : Addr} {H H1 : Hp} {a rm fl x : Addr} {as : List (Addr × Addr)} {Q : VK}
theorem NPost.mono {y : Km357.Net × Km357.Ans} (s : Same H H1) (k : NPost C CN H a rm fl as y Q) : NPost C CN H1 a rm fl as y Q := fun H' rm' fl' as' p N h hp =>
  k H' rm' fl' as' p N (fun c hc => by
    obtain ⟨h1, o, eo, ni⟩ := hc
    have e1 := s _ _ eo
    obtain ⟨q1, q2, q3⟩ := h c ⟨h1, o, e1, ni⟩
    exact ⟨q1, q2, by rw [q3, e1, eo]⟩) hp
theorem SPost.mono {y : Km357.Source × Km357.Ans} (s : Same H H1) (k : SPost CS H x y Q) : SPost CS H1 x y Q := fun H' p S kp np hp =>
  k H' p S (fun c o e hc => kp c o (s _ _ e) hc) (s.free np) hp
end
theorem take_start {k z : Nat} {r : List Nat} : (0 :: k :: z :: r).take (3 + z) = 0 :: k :: z :: r.take z := by
  rw [Nat.add_comm]
  rfl
section
variable {P : Program} {w : World} {K : PySem.W.Frag} {mg : Str → Option Value} {base : Heap} {C CN CS : Addr}

/-! ### end_of_call -/
abbrev s_end_of_call : Stmt := top 39
theorem sc_end_of_call : FnScope ["calls", "at", "name"] ["calls", "at"] (defScope s_end_of_call) := ⟨rfl, rfl, rfl, by decide +kernel, rfl, by decide +kernel, by decide +kernel⟩

def sp_end (K : PySem.W.Frag) : Sp := fun vs H Q _ => ∃ (a : Addr) (i m k : Nat) (x : Km357.Call) (N : List Nat), vs = [.ref a, .int (i : Int)] ∧ SqL K H a (vN N) ∧ NM.Turn (N.drop i) m x k ∧ ∀ H' : Hp, Same H H' → Q (.int ((i + m : Nat) : Int)) H'
theorem ok_end_of_call {f : Addr} {fd : FuncData} (T : Txt mg) (Fn : Fun K "end_of_call" "end_of_call" s_end_of_call f fd) : FnOk P w K mg base CX0 1 f fd ["calls", "at"] (sp_end K) := by
  refine Fn.ok sc_end_of_call (fun vs H Q E h => ?_) (fun cdv A outer s H vs Q E hr h => ?_)
  · obtain ⟨a, i, m, k, x, N, rfl, _⟩ := h
    rfl
  · obtain ⟨a, i, m, k, x, N, rfl, hS, tn, q⟩ := h
    refine ⟨_, (pss_cons (ps_set (i := 2) sc_end_of_call.nd rfl (Or.inl rfl) (pe_ix ix_list (pv 0) (pv 1) (fun _ _ => rfl))) (pss_cons (ps_if (pt_cmpR op_in_seq (pv 2) (pe_tup (pa_cons (pe_num T.SN_START rfl) (pa_cons (pe_num T.SN_HEARD rfl) (pa_cons (pe_num T.SS_HEARD rfl) pa_nil)))) (by rfl)) (pss_one (ps_ret (pe_op op_addN (pe_op op_addN (pv 1) pe_int) (pe_ix ix_list (pv 0) (pe_op op_addN (pv 1) pe_int) (fun _ _ => rfl))))) pss_nil) (pss_cons (ps_if (pt_cmpR op_in_seq (pv 2) (pe_tup (pa_cons (pe_num T.SN_FLOW rfl) (pa_cons (pe_num T.SN_WISH rfl) pa_nil))) (by rfl)) (pss_one (ps_ret (pe_op op_addN (pv 1) pe_int))) pss_nil) (pss_cons (ps_if (pt_cmpR op_in_seq (pv 2) (pe_tup (pa_cons (pe_num T.SS_SAY rfl) (pa_cons (pe_num T.SS_SHARE rfl) pa_nil))) (by rfl)) (pss_one (ps_ret (pe_op op_addN (pv 1) pe_int))) pss_nil) (pss_one (ps_ret (pe_op op_addN (pv 1) pe_int))))))), ?_⟩
    generalize hL : N.drop i = L at tn
    cases tn with
    | start k z r hz =>
      refine ⟨_, rfl, _, rfl, a, _, _, _, rfl, rfl, hS, at_drop (j := 0) hL rfl, ?_⟩
      refine ⟨_, rfl, (by show 3 ≤ sizeLine; decide), fun t1 ht1 => ⟨t1, _, rfl, .inr (SqT.of upd_same), rfl, rfl, _, rfl, ?_⟩⟩
      refine iteB true (by rfl) (iteT ?_)
      exact ⟨_, rfl, i, 3, rfl, rfl, _, rfl, _, rfl, i, 2, rfl, rfl, a, _, _, _, rfl, rfl, (Same.upd ht1).seq hS, at_drop (j := 2) hL rfl, i + 3, z, rfl, rfl, qI (by omega) (q _ (Same.upd ht1))⟩
    | flow k p m r =>
      refine ⟨_, rfl, _, rfl, a, _, _, _, rfl, rfl, hS, at_drop (j := 0) hL rfl, ?_⟩
      refine ⟨_, rfl, (by show 3 ≤ sizeLine; decide), fun t1 ht1 => ⟨t1, _, rfl, .inr (SqT.of upd_same), rfl, rfl, _, rfl, ?_⟩⟩
      refine iteB false (by rfl) (iteF ?_)
      refine ⟨_, rfl, (by show 2 ≤ sizeLine; decide), fun t2 ht2 => ⟨t2, _, rfl, .inr (SqT.of upd_same), rfl, rfl, _, rfl, ?_⟩⟩
      refine iteB true (by rfl) (iteT ?_)
      exact ⟨_, rfl, i, 4, rfl, rfl, q _ ((Same.upd ht1).trans (Same.upd ht2))⟩
    | wish k p m r =>
      refine ⟨_, rfl, _, rfl, a, _, _, _, rfl, rfl, hS, at_drop (j := 0) hL rfl, ?_⟩
      refine ⟨_, rfl, (by show 3 ≤ sizeLine; decide), fun t1 ht1 => ⟨t1, _, rfl, .inr (SqT.of upd_same), rfl, rfl, _, rfl, ?_⟩⟩
      refine iteB false (by rfl) (iteF ?_)
      refine ⟨_, rfl, (by show 2 ≤ sizeLine; decide), fun t2 ht2 => ⟨t2, _, rfl, .inr (SqT.of upd_same), rfl, rfl, _, rfl, ?_⟩⟩
      refine iteB true (by rfl) (iteT ?_)
      exact ⟨_, rfl, i, 4, rfl, rfl, q _ ((Same.upd ht1).trans (Same.upd ht2))⟩
    | say k p r =>
      refine ⟨_, rfl, _, rfl, a, _, _, _, rfl, rfl, hS, at_drop (j := 0) hL rfl, ?_⟩
      refine ⟨_, rfl, (by show 3 ≤ sizeLine; decide), fun t1 ht1 => ⟨t1, _, rfl, .inr (SqT.of upd_same), rfl, rfl, _, rfl, ?_⟩⟩
      refine iteB false (by rfl) (iteF ?_)
      refine ⟨_, rfl, (by show 2 ≤ sizeLine; decide), fun t2 ht2 => ⟨t2, _, rfl, .inr (SqT.of upd_same), rfl, rfl, _, rfl, ?_⟩⟩
      refine iteB false (by rfl) (iteF ?_)
      refine ⟨_, rfl, (by show 2 ≤ sizeLine; decide), fun t3 ht3 => ⟨t3, _, rfl, .inr (SqT.of upd_same), rfl, rfl, _, rfl, ?_⟩⟩
      refine iteB false (by rfl) (iteF ?_)
      exact ⟨_, rfl, i, 3, rfl, rfl, q _ (((Same.upd ht1).trans (Same.upd ht2)).trans (Same.upd ht3))⟩
    | heard k r hz hbb =>
      refine ⟨_, rfl, _, rfl, a, _, _, _, rfl, rfl, hS, at_drop (j := 0) hL rfl, ?_⟩
      refine ⟨_, rfl, (by show 3 ≤ sizeLine; decide), fun t1 ht1 => ⟨t1, _, rfl, .inr (SqT.of upd_same), rfl, rfl, _, rfl, ?_⟩⟩
      refine iteB true (by rfl) (iteT ?_)
      exact ⟨_, rfl, i, 3, rfl, rfl, _, rfl, _, rfl, i, 2, rfl, rfl, a, _, _, _, rfl, rfl, (Same.upd ht1).seq hS, at_drop (j := 2) hL rfl, i + 3, 16, rfl, rfl, qI (by omega) (q _ (Same.upd ht1))⟩
    | of_ k p r =>
      refine ⟨_, rfl, _, rfl, a, _, _, _, rfl, rfl, hS, at_drop (j := 0) hL rfl, ?_⟩
      refine ⟨_, rfl, (by show 3 ≤ sizeLine; decide), fun t1 ht1 => ⟨t1, _, rfl, .inr (SqT.of upd_same), rfl, rfl, _, rfl, ?_⟩⟩
      refine iteB false (by rfl) (iteF ?_)
      refine ⟨_, rfl, (by show 2 ≤ sizeLine; decide), fun t2 ht2 => ⟨t2, _, rfl, .inr (SqT.of upd_same), rfl, rfl, _, rfl, ?_⟩⟩
      refine iteB false (by rfl) (iteF ?_)
      refine ⟨_, rfl, (by show 2 ≤ sizeLine; decide), fun t3 ht3 => ⟨t3, _, rfl, .inr (SqT.of upd_same), rfl, rfl, _, rfl, ?_⟩⟩
      refine iteB false (by rfl) (iteF ?_)
      exact ⟨_, rfl, i, 3, rfl, rfl, q _ (((Same.upd ht1).trans (Same.upd ht2)).trans (Same.upd ht3))⟩
    | sstart k p r =>
      refine ⟨_, rfl, _, rfl, a, _, _, _, rfl, rfl, hS, at_drop (j := 0) hL rfl, ?_⟩
      refine ⟨_, rfl, (by show 3 ≤ sizeLine; decide), fun t1 ht1 => ⟨t1, _, rfl, .inr (SqT.of upd_same), rfl, rfl, _, rfl, ?_⟩⟩
      refine iteB false (by rfl) (iteF ?_)
      refine ⟨_, rfl, (by show 2 ≤ sizeLine; decide), fun t2 ht2 => ⟨t2, _, rfl, .inr (SqT.of upd_same), rfl, rfl, _, rfl, ?_⟩⟩
      refine iteB false (by rfl) (iteF ?_)
      refine ⟨_, rfl, (by show 2 ≤ sizeLine; decide), fun t3 ht3 => ⟨t3, _, rfl, .inr (SqT.of upd_same), rfl, rfl, _, rfl, ?_⟩⟩
      refine iteB false (by rfl) (iteF ?_)
      exact ⟨_, rfl, i, 3, rfl, rfl, q _ (((Same.upd ht1).trans (Same.upd ht2)).trans (Same.upd ht3))⟩
    | sheard k r hz hbb =>
      refine ⟨_, rfl, _, rfl, a, _, _, _, rfl, rfl, hS, at_drop (j := 0) hL rfl, ?_⟩
      refine ⟨_, rfl, (by show 3 ≤ sizeLine; decide), fun t1 ht1 => ⟨t1, _, rfl, .inr (SqT.of upd_same), rfl, rfl, _, rfl, ?_⟩⟩
      refine iteB true (by rfl) (iteT ?_)
      exact ⟨_, rfl, i, 3, rfl, rfl, _, rfl, _, rfl, i, 2, rfl, rfl, a, _, _, _, rfl, rfl, (Same.upd ht1).seq hS, at_drop (j := 2) hL rfl, i + 3, 16, rfl, rfl, qI (by omega) (q _ (Same.upd ht1))⟩
    | ssay k r =>
      refine ⟨_, rfl, _, rfl, a, _, _, _, rfl, rfl, hS, at_drop (j := 0) hL rfl, ?_⟩
      refine ⟨_, rfl, (by show 3 ≤ sizeLine; decide), fun t1 ht1 => ⟨t1, _, rfl, .inr (SqT.of upd_same), rfl, rfl, _, rfl, ?_⟩⟩
      refine iteB false (by rfl) (iteF ?_)
      refine ⟨_, rfl, (by show 2 ≤ sizeLine; decide), fun t2 ht2 => ⟨t2, _, rfl, .inr (SqT.of upd_same), rfl, rfl, _, rfl, ?_⟩⟩
      refine iteB false (by rfl) (iteF ?_)
      refine ⟨_, rfl, (by show 2 ≤ sizeLine; decide), fun t3 ht3 => ⟨t3, _, rfl, .inr (SqT.of upd_same), rfl, rfl, _, rfl, ?_⟩⟩
      refine iteB true (by rfl) (iteT ?_)
      exact ⟨_, rfl, i, 2, rfl, rfl, q _ (((Same.upd ht1).trans (Same.upd ht2)).trans (Same.upd ht3))⟩
    | share k r =>
      refine ⟨_, rfl, _, rfl, a, _, _, _, rfl, rfl, hS, at_drop (j := 0) hL rfl, ?_⟩
      refine ⟨_, rfl, (by show 3 ≤ sizeLine; decide), fun t1 ht1 => ⟨t1, _, rfl, .inr (SqT.of upd_same), rfl, rfl, _, rfl, ?_⟩⟩
      refine iteB false (by rfl) (iteF ?_)
      refine ⟨_, rfl, (by show 2 ≤ sizeLine; decide), fun t2 ht2 => ⟨t2, _, rfl, .inr (SqT.of upd_same), rfl, rfl, _, rfl, ?_⟩⟩
      refine iteB false (by rfl) (iteF ?_)
      refine ⟨_, rfl, (by show 2 ≤ sizeLine; decide), fun t3 ht3 => ⟨t3, _, rfl, .inr (SqT.of upd_same), rfl, rfl, _, rfl, ?_⟩⟩
      refine iteB true (by rfl) (iteT ?_)
      exact ⟨_, rfl, i, 2, rfl, rfl, q _ (((Same.upd ht1).trans (Same.upd ht2)).trans (Same.upd ht3))⟩

/-! ### answer_of_net -/
abbrev s_answer_of_net : Stmt := top 40
theorem sc_answer_of_net : FnScope ["net", "call", "name"] ["net", "call"] (defScope s_answer_of_net) := ⟨rfl, rfl, rfl, by decide +kernel, rfl, by decide +kernel, by decide +kernel⟩

def sp_ans_net (C CN : Addr) : Sp := fun vs H Q _ => ∃ (a b rm fl : Addr) (as : List (Addr × Addr)) (n : Km357.Net) (m k : Nat) (x : Km357.Call) (L : List Nat), vs = [.ref a, .ref b] ∧ H b = some (.lst (vN (L.take m))) ∧ NM.Turn L m x k ∧ Km357.whose x = 0 ∧
  NetAt C CN H a rm fl as n ∧ NPost C CN H a rm fl as (Km357.nDoes n x) Q
theorem ok_answer_of_net {f : Addr} {fd : FuncData} (T : Txt mg) (Fn : Fun K "answer_of_net" "answer_of_net" s_answer_of_net f fd)
    (m_sn_start : HasM P w K mg base CN "sn_start" 1 ["self", "room"] (sp_sn_start C CN)) (m_sn_flow : HasM P w K mg base CN "sn_flow" 5 ["self", "path", "most"] (sp_sn_flow C CN)) (m_sn_wish : HasM P w K mg base CN "sn_wish" 5 ["self", "flow", "most"] (sp_sn_wish C CN))
    (m_sn_say : HasM P w K mg base CN "sn_say" 3 ["self", "flow"] (sp_sn_say C CN)) (m_sn_heard : HasM P w K mg base CN "sn_heard" 5 ["self", "message"] (sp_sn_heard C CN)) (m_sn_of : HasM P w K mg base CN "sn_of" 4 ["self", "flow"] (sp_sn_of C CN)) :
    FnOk P w K mg base CX0 6 f fd ["net", "call"] (sp_ans_net C CN) := by
  refine Fn.ok sc_answer_of_net (fun vs H Q E h => ?_) (fun cdv A outer s H vs Q E hr h => ?_)
  · obtain ⟨a, b, rm, fl, as, n, m, k, x, L, rfl, _⟩ := h
    rfl
  · obtain ⟨a, b, rm, fl, as, n, m, k, x, L, rfl, hb, tn, hw, N, kk⟩ := h
    obtain ⟨dx, ha⟩ := N.ins
    have no : ∀ {m : Str}, (m == "room") = false → (m == "flows") = false → (nf rm fl).lookup m = none := fun h1 h2 => nf_no rm fl h1 h2
    have nth : ∀ {l : List Nat} (j : Nat) {v : Nat}, l[j]? = some v → atI (vN l) (j : Int) = some (.int (v : Int)) := fun {l} j {v} h => atI_nat (vN_at h)
    refine ⟨_, (pss_cons (ps_set (i := 2) sc_answer_of_net.nd rfl (Or.inl rfl) (pe_ix ix_list (pv 1) pe_int (fun _ _ => rfl))) (pss_cons (ps_if (pt_cmpR op_eqN (pv 2) (pe_num T.SN_START rfl) (nomark _)) (pss_one (ps_ret (pe_hasm m_sn_start hr (by decide) (pv 0) (pa_cons (pe_slice sl_list (pv 1) (po_some pe_int) po_none) pa_nil)))) pss_nil) (pss_cons (ps_if (pt_cmpR op_eqN (pv 2) (pe_num T.SN_FLOW rfl) (nomark _)) (pss_one (ps_ret (pe_hasm m_sn_flow hr (by decide) (pv 0) (pa_cons (pe_ix ix_list (pv 1) pe_int (fun _ _ => rfl)) (pa_cons (pe_ix ix_list (pv 1) pe_int (fun _ _ => rfl)) pa_nil))))) pss_nil) (pss_cons (ps_if (pt_cmpR op_eqN (pv 2) (pe_num T.SN_WISH rfl) (nomark _)) (pss_one (ps_ret (pe_hasm m_sn_wish hr (by decide) (pv 0) (pa_cons (pe_ix ix_list (pv 1) pe_int (fun _ _ => rfl)) (pa_cons (pe_ix ix_list (pv 1) pe_int (fun _ _ => rfl)) pa_nil))))) pss_nil) (pss_cons (ps_if (pt_cmpR op_eqN (pv 2) (pe_num T.SN_SAY rfl) (nomark _)) (pss_one (ps_ret (pe_hasm m_sn_say hr (by decide) (pv 0) (pa_cons (pe_ix ix_list (pv 1) pe_int (fun _ _ => rfl)) pa_nil)))) pss_nil) (pss_cons (ps_if (pt_cmpR op_eqN (pv 2) (pe_num T.SN_HEARD rfl) (nomark _)) (pss_one (ps_ret (pe_hasm m_sn_heard hr (by decide) (pv 0) (pa_cons (pe_slice sl_list (pv 1) (po_some pe_int) po_none) pa_nil)))) pss_nil) (pss_one (ps_ret (pe_hasm m_sn_of hr (by decide) (pv 0) (pa_cons (pe_ix ix_list (pv 1) pe_int (fun _ _ => rfl)) pa_nil)))))))))), ?_⟩
    cases tn with
    | start k z r hz =>
      rw [take_start] at hb
      refine ⟨_, rfl, b, _, _, _, rfl, rfl, SqL.of hb, nth 0 rfl, ?_⟩
      refine ⟨_, rfl, 0, 0, rfl, rfl, _, rfl, iteD (fun _ => ?_) (fun c => absurd rfl c)⟩
      refine ⟨_, rfl, a, dx, _, rfl, ha, no (by decide +kernel) (by decide +kernel), _, rfl, _, rfl, b, _, rfl, SqL.of hb, fun b' hb' => ?_⟩
      have ec : cutV (vN (0 :: k :: z :: r.take z)) (some 3) none = vN (r.take z) := (cut_drop _ 3).trans (vN_drop _ _)
      rw [ec]
      exact ⟨a, b', rm, fl, as, n, r.take z, rfl, N.same (Same.upd hb'), upd_same, kk.mono (Same.upd hb')⟩
    | flow k p m r =>
      refine ⟨_, rfl, b, _, _, _, rfl, rfl, SqL.of hb, nth 0 rfl, ?_⟩
      refine ⟨_, rfl, 1, 0, rfl, rfl, _, rfl, iteD (fun c => absurd c (by decide)) (fun _ => ?_)⟩
      refine ⟨_, rfl, 1, 1, rfl, rfl, _, rfl, iteD (fun _ => ?_) (fun c => absurd rfl c)⟩
      exact ⟨_, rfl, a, dx, _, rfl, ha, no (by decide +kernel) (by decide +kernel), _, rfl, b, _, _, _, rfl, rfl, SqL.of hb, nth 2 rfl, _, rfl, b, _, _, _, rfl, rfl, SqL.of hb, nth 3 rfl, a, rm, fl, as, n, p, m, rfl, N, kk⟩
    | wish k p m r =>
      refine ⟨_, rfl, b, _, _, _, rfl, rfl, SqL.of hb, nth 0 rfl, ?_⟩
      refine ⟨_, rfl, 2, 0, rfl, rfl, _, rfl, iteD (fun c => absurd c (by decide)) (fun _ => ?_)⟩
      refine ⟨_, rfl, 2, 1, rfl, rfl, _, rfl, iteD (fun c => absurd c (by decide)) (fun _ => ?_)⟩
      refine ⟨_, rfl, 2, 2, rfl, rfl, _, rfl, iteD (fun _ => ?_) (fun c => absurd rfl c)⟩
      exact ⟨_, rfl, a, dx, _, rfl, ha, no (by decide +kernel) (by decide +kernel), _, rfl, b, _, _, _, rfl, rfl, SqL.of hb, nth 2 rfl, _, rfl, b, _, _, _, rfl, rfl, SqL.of hb, nth 3 rfl, a, rm, fl, as, n, p, m, rfl, N, kk⟩
    | say k p r =>
      refine ⟨_, rfl, b, _, _, _, rfl, rfl, SqL.of hb, nth 0 rfl, ?_⟩
      refine ⟨_, rfl, 3, 0, rfl, rfl, _, rfl, iteD (fun c => absurd c (by decide)) (fun _ => ?_)⟩
      refine ⟨_, rfl, 3, 1, rfl, rfl, _, rfl, iteD (fun c => absurd c (by decide)) (fun _ => ?_)⟩
      refine ⟨_, rfl, 3, 2, rfl, rfl, _, rfl, iteD (fun c => absurd c (by decide)) (fun _ => ?_)⟩
      refine ⟨_, rfl, 3, 3, rfl, rfl, _, rfl, iteD (fun _ => ?_) (fun c => absurd rfl c)⟩
      exact ⟨_, rfl, a, dx, _, rfl, ha, no (by decide +kernel) (by decide +kernel), _, rfl, b, _, _, _, rfl, rfl, SqL.of hb, nth 2 rfl, a, rm, fl, as, n, p, rfl, N, kk⟩
    | heard k r hz hbb =>
      refine ⟨_, rfl, b, _, _, _, rfl, rfl, SqL.of hb, nth 0 rfl, ?_⟩
      refine ⟨_, rfl, 4, 0, rfl, rfl, _, rfl, iteD (fun c => absurd c (by decide)) (fun _ => ?_)⟩
      refine ⟨_, rfl, 4, 1, rfl, rfl, _, rfl, iteD (fun c => absurd c (by decide)) (fun _ => ?_)⟩
      refine ⟨_, rfl, 4, 2, rfl, rfl, _, rfl, iteD (fun c => absurd c (by decide)) (fun _ => ?_)⟩
      refine ⟨_, rfl, 4, 3, rfl, rfl, _, rfl, iteD (fun c => absurd c (by decide)) (fun _ => ?_)⟩
      refine ⟨_, rfl, 4, 4, rfl, rfl, _, rfl, iteD (fun _ => ?_) (fun c => absurd rfl c)⟩
      refine ⟨_, rfl, a, dx, _, rfl, ha, no (by decide +kernel) (by decide +kernel), _, rfl, _, rfl, b, _, rfl, SqL.of hb, fun b' hb' => ?_⟩
      have ec : cutV (vN (4 :: k :: 16 :: r.take 16)) (some 3) none = vN (r.take 16) := (cut_drop _ 3).trans (vN_drop _ _)
      have ec : cutV (vN ((4 :: k :: 16 :: r).take 19)) (some 3) none = vN (r.take 16) := ec
      rw [ec]
      exact ⟨a, b', rm, fl, as, n, r.take 16, rfl, N.same (Same.upd hb'), upd_same, by rw [List.length_take]; omega, hbb, kk.mono (Same.upd hb')⟩
    | of_ k p r =>
      refine ⟨_, rfl, b, _, _, _, rfl, rfl, SqL.of hb, nth 0 rfl, ?_⟩
      refine ⟨_, rfl, 5, 0, rfl, rfl, _, rfl, iteD (fun c => absurd c (by decide)) (fun _ => ?_)⟩
      refine ⟨_, rfl, 5, 1, rfl, rfl, _, rfl, iteD (fun c => absurd c (by decide)) (fun _ => ?_)⟩
      refine ⟨_, rfl, 5, 2, rfl, rfl, _, rfl, iteD (fun c => absurd c (by decide)) (fun _ => ?_)⟩
      refine ⟨_, rfl, 5, 3, rfl, rfl, _, rfl, iteD (fun c => absurd c (by decide)) (fun _ => ?_)⟩
      refine ⟨_, rfl, 5, 4, rfl, rfl, _, rfl, iteD (fun c => absurd c (by decide)) (fun _ => ?_)⟩
      exact ⟨_, rfl, a, dx, _, rfl, ha, no (by decide +kernel) (by decide +kernel), _, rfl, b, _, _, _, rfl, rfl, SqL.of hb, nth 2 rfl, a, rm, fl, as, n, p, rfl, N, kk⟩
    | sstart => cases hw
    | sheard => cases hw
    | ssay => cases hw
    | share => cases hw

/-! ### answer_of_source -/
abbrev s_answer_of_source : Stmt := top 41
theorem sc_answer_of_source : FnScope ["source", "call", "name"] ["source", "call"] (defScope s_answer_of_source) := ⟨rfl, rfl, rfl, by decide +kernel, rfl, by decide +kernel, by decide +kernel⟩

def sp_ans_src (CS : Addr) : Sp := fun vs H Q _ => ∃ (y b : Addr) (u : Km357.Source) (m k : Nat) (x : Km357.Call) (L : List Nat), vs = [.ref y, .ref b] ∧ H b = some (.lst (vN (L.take m))) ∧ NM.Turn L m x k ∧ Km357.whose x = 1 ∧
  SrcAt CS H y u ∧ SPost CS H y (Km357.sDoes u x) Q
theorem ok_answer_of_source {f : Addr} {fd : FuncData} (T : Txt mg) (Fn : Fun K "answer_of_source" "answer_of_source" s_answer_of_source f fd)
    (m_ss_start : HasM P w K mg base CS "ss_start" 1 ["self", "me"] (sp_ss_start CS)) (m_ss_heard : HasM P w K mg base CS "ss_heard" 3 ["self", "message"] (sp_ss_heard CS)) (m_ss_say : HasM P w K mg base CS "ss_say" 3 ["self"] (sp_ss_say CS))
    (m_ss_share : HasM P w K mg base CS "ss_share" 1 ["self"] (sp_ss_share CS)) :
    FnOk P w K mg base CX0 4 f fd ["source", "call"] (sp_ans_src CS) := by
  refine Fn.ok sc_answer_of_source (fun vs H Q E h => ?_) (fun cdv A outer s H vs Q E hr h => ?_)
  · obtain ⟨y, b, u, m, k, x, L, rfl, _⟩ := h
    rfl
  · obtain ⟨y, b, u, m, k, x, L, rfl, hb, tn, hw, S, kk⟩ := h
    obtain ⟨dx, hy⟩ := S
    have no : ∀ {m : Str}, (m == "flow") = false → (m == "number") = false → (m == "share") = false → (sf u).lookup m = none := fun h1 h2 h3 => sf_no u h1 h2 h3
    have nth : ∀ {l : List Nat} (j : Nat) {v : Nat}, l[j]? = some v → atI (vN l) (j : Int) = some (.int (v : Int)) := fun {l} j {v} h => atI_nat (vN_at h)
    refine ⟨_, (pss_cons (ps_set (i := 2) sc_answer_of_source.nd rfl (Or.inl rfl) (pe_ix ix_list (pv 1) pe_int (fun _ _ => rfl))) (pss_cons (ps_if (pt_cmpR op_eqN (pv 2) (pe_num T.SS_START rfl) (nomark _)) (pss_one (ps_ret (pe_hasm m_ss_start hr (by decide) (pv 0) (pa_cons (pe_ix ix_list (pv 1) pe_int (fun _ _ => rfl)) pa_nil)))) pss_nil) (pss_cons (ps_if (pt_cmpR op_eqN (pv 2) (pe_num T.SS_HEARD rfl) (nomark _)) (pss_one (ps_ret (pe_hasm m_ss_heard hr (by decide) (pv 0) (pa_cons (pe_slice sl_list (pv 1) (po_some pe_int) po_none) pa_nil)))) pss_nil) (pss_cons (ps_if (pt_cmpR op_eqN (pv 2) (pe_num T.SS_SAY rfl) (nomark _)) (pss_one (ps_ret (pe_hasm0 m_ss_say hr (by decide) (pv 0)))) pss_nil) (pss_one (ps_ret (pe_hasm0 m_ss_share hr (by decide) (pv 0)))))))), ?_⟩
    cases tn with
    | start => cases hw
    | flow => cases hw
    | wish => cases hw
    | say => cases hw
    | heard => cases hw
    | of_ => cases hw
    | sstart k p r =>
      refine ⟨_, rfl, b, _, _, _, rfl, rfl, SqL.of hb, nth 0 rfl, ?_⟩
      refine ⟨_, rfl, 6, 6, rfl, rfl, _, rfl, iteD (fun _ => ?_) (fun c => absurd rfl c)⟩
      exact ⟨_, rfl, y, dx, _, rfl, hy, no (by decide +kernel) (by decide +kernel) (by decide +kernel), _, rfl, b, _, _, _, rfl, rfl, SqL.of hb, nth 2 rfl, y, u, p, rfl, ⟨dx, hy⟩, kk⟩
    | sheard k r hz hbb =>
      refine ⟨_, rfl, b, _, _, _, rfl, rfl, SqL.of hb, nth 0 rfl, ?_⟩
      refine ⟨_, rfl, 7, 6, rfl, rfl, _, rfl, iteD (fun c => absurd c (by decide)) (fun _ => ?_)⟩
      refine ⟨_, rfl, 7, 7, rfl, rfl, _, rfl, iteD (fun _ => ?_) (fun c => absurd rfl c)⟩
      refine ⟨_, rfl, y, dx, _, rfl, hy, no (by decide +kernel) (by decide +kernel) (by decide +kernel), _, rfl, _, rfl, b, _, rfl, SqL.of hb, fun b' hb' => ?_⟩
      have ec : cutV (vN ((7 :: k :: 16 :: r).take 19)) (some 3) none = vN (r.take 16) := (cut_drop _ 3).trans (vN_drop _ _)
      rw [ec]
      have s1 : Same H (upd H b' (.lst (vN (r.take 16)))) := Same.upd hb'
      exact ⟨y, b', u, r.take 16, rfl, ⟨dx, s1 _ _ hy⟩, upd_same, by rw [List.length_take]; omega, hbb, kk.mono s1⟩
    | ssay k r =>
      refine ⟨_, rfl, b, _, _, _, rfl, rfl, SqL.of hb, nth 0 rfl, ?_⟩
      refine ⟨_, rfl, 8, 6, rfl, rfl, _, rfl, iteD (fun c => absurd c (by decide)) (fun _ => ?_)⟩
      refine ⟨_, rfl, 8, 7, rfl, rfl, _, rfl, iteD (fun c => absurd c (by decide)) (fun _ => ?_)⟩
      refine ⟨_, rfl, 8, 8, rfl, rfl, _, rfl, iteD (fun _ => ?_) (fun c => absurd rfl c)⟩
      exact ⟨_, rfl, y, dx, _, rfl, hy, no (by decide +kernel) (by decide +kernel) (by decide +kernel), y, u, rfl, ⟨dx, hy⟩, kk⟩
    | share k r =>
      refine ⟨_, rfl, b, _, _, _, rfl, rfl, SqL.of hb, nth 0 rfl, ?_⟩
      refine ⟨_, rfl, 9, 6, rfl, rfl, _, rfl, iteD (fun c => absurd c (by decide)) (fun _ => ?_)⟩
      refine ⟨_, rfl, 9, 7, rfl, rfl, _, rfl, iteD (fun c => absurd c (by decide)) (fun _ => ?_)⟩
      refine ⟨_, rfl, 9, 8, rfl, rfl, _, rfl, iteD (fun c => absurd c (by decide)) (fun _ => ?_)⟩
      exact ⟨_, rfl, y, dx, _, rfl, hy, no (by decide +kernel) (by decide +kernel) (by decide +kernel), y, u, rfl, ⟨dx, hy⟩, kk⟩

/-! ### answer_of -/
theorem turn_head {L : List Nat} {m k : Nat} {x : Km357.Call} (h : NM.Turn L m x k) : ∃ p q, L.take m = p :: k :: q ∧ (Km357.whose x = 0 → p < 6) ∧ (Km357.whose x = 1 → 6 ≤ p) := by
  cases h with
  | start k z r hz => exact ⟨0, _, take_start, fun _ => by decide, fun c => by cases c⟩
  | flow k p m r => exact ⟨1, _, rfl, fun _ => by decide, fun c => by cases c⟩
  | wish k p m r => exact ⟨2, _, rfl, fun _ => by decide, fun c => by cases c⟩
  | say k p r => exact ⟨3, _, rfl, fun _ => by decide, fun c => by cases c⟩
  | heard k r hz hb => exact ⟨4, _, rfl, fun _ => by decide, fun c => by cases c⟩
  | of_ k p r => exact ⟨5, _, rfl, fun _ => by decide, fun c => by cases c⟩
  | sstart k p r => exact ⟨6, _, rfl, fun c => (by cases c), fun _ => by decide⟩
  | sheard k r hz hb => exact ⟨7, _, rfl, fun c => (by cases c), fun _ => by decide⟩
  | ssay k r => exact ⟨8, _, rfl, fun c => (by cases c), fun _ => by decide⟩
  | share k r => exact ⟨9, _, rfl, fun c => (by cases c), fun _ => by decide⟩
abbrev s_answer_of : Stmt := top 42
theorem sc_answer_of : FnScope ["net", "sources", "call"] ["net", "sources", "call"] (defScope s_answer_of) := ⟨rfl, rfl, rfl, by decide +kernel, rfl, by decide +kernel, by decide +kernel⟩

def sp_ans_of (C CN CS : Addr) : Sp := fun vs H Q _ => ∃ (a S b : Addr) (m k : Nat) (x : Km357.Call) (L : List Nat), vs = [.ref a, .ref S, .ref b] ∧ H b = some (.lst (vN (L.take m))) ∧ NM.Turn L m x k ∧
  ((Km357.whose x = 0 ∧ ∃ rm fl as n, NetAt C CN H a rm fl as n ∧ NPost C CN H a rm fl as (Km357.nDoes n x) Q) ∨
   (Km357.whose x = 1 ∧ ∃ sl y u, H S = some (.lst sl) ∧ atI sl (k : Int) = some (.ref y) ∧ SrcAt CS H y u ∧ SPost CS H y (Km357.sDoes u x) Q))
theorem ok_answer_of {f : Addr} {fd : FuncData} (T : Txt mg) (Fn : Fun K "answer_of" "answer_of" s_answer_of f fd)
    (h_answer_of_net : Has P w K mg base "answer_of_net" 6 ["net", "call"] (sp_ans_net C CN)) (h_answer_of_source : Has P w K mg base "answer_of_source" 4 ["source", "call"] (sp_ans_src CS)) :
    FnOk P w K mg base CX0 7 f fd ["net", "sources", "call"] (sp_ans_of C CN CS) := by
  refine Fn.ok sc_answer_of (fun vs H Q E h => ?_) (fun cdv A outer s H vs Q E hr h => ?_)
  · obtain ⟨a, S, b, m, k, x, L, rfl, _⟩ := h
    rfl
  · obtain ⟨a, S, b, m, k, x, L, rfl, hb, tn, h⟩ := h
    obtain ⟨p, q, ep, h0, h1⟩ := turn_head tn
    have at0 : atI (vN (L.take m)) ((0 : Nat) : Int) = some (.int (p : Int)) := atI_nat (vN_at (by rw [ep]; rfl))
    have at1 : atI (vN (L.take m)) ((1 : Nat) : Int) = some (.int (k : Int)) := atI_nat (vN_at (by rw [ep]; rfl))
    refine ⟨_, (pss_cons (ps_if (pt_cmpR op_ltN (pe_ix ix_list (pv 2) pe_int (fun _ _ => rfl)) (pe_num T.SS_START rfl) (nomark _)) (pss_one (ps_ret (pe_has h_answer_of_net hr (by decide) rfl (pa_cons (pv 0) (pa_cons (pv 2) pa_nil))))) pss_nil) (pss_one (ps_ret (pe_has h_answer_of_source hr (by decide) rfl (pa_cons (pe_ix ix_list (pv 1) (pe_ix ix_list (pv 2) pe_int (fun _ _ => rfl)) (fun _ _ => rfl)) (pa_cons (pv 2) pa_nil)))))), ?_⟩
    refine ⟨_, rfl, b, _, _, _, rfl, rfl, SqL.of hb, at0, p, 6, rfl, rfl, _, rfl, ?_⟩
    rcases h with ⟨hw, rm, fl, as, n, N, kk⟩ | ⟨hw, sl, y, u, hS, hat, U, kk⟩
    · refine iteD (fun _ => ?_) (fun c => absurd (h0 hw) c)
      exact ⟨_, rfl, _, rfl, a, b, rm, fl, as, n, m, k, x, L, rfl, hb, tn, hw, N, kk⟩
    · refine iteD (fun c => absurd (h1 hw) (Nat.not_le.mpr c)) (fun _ => ?_)
      exact ⟨_, rfl, _, rfl, b, _, _, _, rfl, rfl, SqL.of hb, at1, S, _, _, _, rfl, rfl, SqL.of hS, hat, _, rfl, y, b, u, m, k, x, L, rfl, hb, tn, hw, U, kk⟩
end
end NB
set_option Elab.async false
set_option linter.all false
set_option maxRecDepth 100000
set_option maxHeartbeats 2000000
namespace NB
open PySem PySem.Spec PyProof.Rows L2
/-! ### the list that is handed in -/
def CAt (K : PySem.W.Frag) (H : Hp) (a : Addr) (xs : List V) (F : Addr → Prop) : Prop :=
  (∀ H', SqL K H' a xs) ∨ ∃ o, H a = some o ∧ (∀ H', H' a = some o → SqL K H' a xs) ∧ (∀ D d f, o ≠ HO.ins D d f) ∧ ¬ F a
theorem CAt.sq {K : PySem.W.Frag} {H : Hp} {a : Addr} {xs : List V} {F : Addr → Prop} (h : CAt K H a xs F) : SqL K H a xs := by
  rcases h with h | ⟨o, e, h, _⟩
  · exact h H
  · exact h H e
theorem CAt.of {K : PySem.W.Frag} {H H1 : Hp} {a : Addr} {xs : List V} {F : Addr → Prop} (h : SqL K H a xs) (s : Same H H1) (f : ∀ c, F c → H c = none) : CAt K H1 a xs F := by
  have nf : ∀ o, H a = some o → ¬ F a := fun o e q => by
    rw [f a q] at e
    cases e
  rcases h with (h | ⟨o, h⟩) | h
  · exact .inr ⟨_, s _ _ h, fun H' e => .inl (.inl e), fun D d f q => (by cases q), nf _ h⟩
  · exact .inr ⟨_, s _ _ h, fun H' e => .inl (.inr ⟨o, e⟩), fun D d f q => (by cases q), nf _ h⟩
  · exact .inl fun H' => .inr h
theorem CAt.step {K : PySem.W.Frag} {H H1 : Hp} {a : Addr} {xs : List V} {F F1 : Addr → Prop} (h : CAt K H a xs F) (st : ∀ o, H a = some o → (∀ D d f, o ≠ HO.ins D d f) → ¬ F a → H1 a = some o ∧ ¬ F1 a) : CAt K H1 a xs F1 := by
  rcases h with h | ⟨o, e, h, ni, nF⟩
  · exact .inl h
  · obtain ⟨e1, n1⟩ := st o e ni nF
    exact .inr ⟨o, e1, h, ni, n1⟩
/-! ### the net, its lists and what is not -/
theorem NetAt.foot {C CN : Addr} {H : Hp} {a rm fl : Addr} {as : List (Addr × Addr)} {n : Km357.Net} (N : NetAt C CN H a rm fl as n) {c : Addr} (h : Foot rm fl as c) : ∃ xs, H c = some (.lst xs) := by
  rcases h with h | h | ⟨p, hp, h⟩
  · exact ⟨_, h ▸ N.room⟩
  · exact ⟨_, h ▸ N.flows.lst⟩
  · obtain ⟨i, hi⟩ := List.getElem?_of_mem hp
    have li := (List.getElem?_eq_some_iff.mp hi).1
    rw [N.flows.len] at li
    exact ⟨_, h ▸ (N.flows.at_ i p _ hi (List.getElem?_eq_getElem li)).lin⟩
theorem NetAt.ins_at {C CN : Addr} {H : Hp} {a rm fl : Addr} {as : List (Addr × Addr)} {n : Km357.Net} (N : NetAt C CN H a rm fl as n) {p : Addr × Addr} (hp : p ∈ as) : ∃ dx f, H p.1 = some (.ins C dx f) := by
  obtain ⟨i, hi⟩ := List.getElem?_of_mem hp
  have li := (List.getElem?_eq_some_iff.mp hi).1
  rw [N.flows.len] at li
  obtain ⟨dx, e⟩ := (N.flows.at_ i p _ hi (List.getElem?_eq_getElem li)).ins
  exact ⟨dx, _, e⟩
theorem NetAt.keep {C CN : Addr} {H H1 : Hp} {a rm fl z : Addr} {as : List (Addr × Addr)} {n : Km357.Net} (N : NetAt C CN H a rm fl as n) (kp : ∀ c o, H c = some o → c ≠ z → H1 c = some o) (na : a ≠ z) (nf : ¬ Foot rm fl as z) (ni : ∀ p ∈ as, p.1 ≠ z) :
    NetAt C CN H1 a rm fl as n := by
  obtain ⟨dx, e⟩ := N.ins
  refine ⟨⟨dx, kp _ _ e na⟩, kp _ _ N.room fun q => nf (.inl q.symm), ⟨kp _ _ N.flows.lst fun q => nf (.inr (.inl q.symm)), N.flows.len, N.flows.nd, fun j p f hj hf => ?_⟩, N.ne, N.nl, N.ok⟩
  obtain ⟨⟨d, e1⟩, e2⟩ := N.flows.at_ j p f hj hf
  have hp := List.mem_of_getElem? hj
  exact ⟨⟨d, kp _ _ e1 (ni p hp)⟩, kp _ _ e2 fun q => nf (.inr (.inr ⟨p, hp, q⟩))⟩
/-! ### the state of the loop -/
structure LI (C CN CS : Addr) (K : PySem.W.Frag) (H : Hp) (a net S q rm fl : Addr) (as : List (Addr × Addr)) (ss : List Addr) (N : List Nat) (s : Km357Neutral.S) (D : List Int) : Prop where
  net : NetAt C CN H net rm fl as (NM.netOf s)
  sl : H S = some (.lst (ss.map V.ref))
  len : ss.length = 4
  nd : ss.Nodup
  src : ∀ (k : Nat) (y : Addr), ss[k]? = some y → SrcAt CS H y (NM.srcOf s k)
  out : H q = some (.lst (D.map V.int))
  qS : q ≠ S
  fq : ¬ Foot rm fl as q
  fS : ¬ Foot rm fl as S
  cal : CAt K H a (vN N) fun c => Foot rm fl as c ∨ c = q
section
variable {C CN CS : Addr} {K : PySem.W.Frag} {H H1 : Hp} {a net S q rm fl rm' fl' : Addr} {as as' : List (Addr × Addr)} {ss : List Addr} {N : List Nat} {s s' : Km357Neutral.S} {D D' : List Int}
theorem LI.same (L : LI C CN CS K H a net S q rm fl as ss N s D) (e : Same H H1) : LI C CN CS K H1 a net S q rm fl as ss N s D :=
  ⟨L.net.same e, e _ _ L.sl, L.len, L.nd, fun k y h => (by obtain ⟨dx, z⟩ := L.src k y h; exact ⟨dx, e _ _ z⟩), e _ _ L.out, L.qS, L.fq, L.fS, L.cal.step fun o h _ nF => ⟨e _ _ h, nF⟩⟩
theorem ni_lst {xs : List V} : NI C CN (.lst xs) := fun D dx f e => by cases e
/-- a call of the net -/
theorem LI.netStep (hS1 : CS ≠ C) (hS2 : CS ≠ CN) (L : LI C CN CS K H a net S q rm fl as ss N s D) (NA : NetAt C CN H1 net rm' fl' as' (NM.netOf s')) (es : ∀ j, NM.srcOf s' j = NM.srcOf s j)
    (h : ∀ c, Old C CN H rm fl as c → ¬ Foot rm' fl' as' c ∧ H1 c = H c) : LI C CN CS K H1 a net S q rm' fl' as' ss N s' D := by
  have oS : Old C CN H rm fl as S := ⟨L.fS, _, L.sl, ni_lst⟩
  have oq : Old C CN H rm fl as q := ⟨L.fq, _, L.out, ni_lst⟩
  obtain ⟨a1, a2⟩ := h S oS
  obtain ⟨b1, b2⟩ := h q oq
  refine ⟨NA, by rw [a2]; exact L.sl, L.len, L.nd, fun k y hy => ?_, by rw [b2]; exact L.out, L.qS, b1, a1, L.cal.step fun o e ni nF => ?_⟩
  · obtain ⟨dx, e⟩ := L.src k y hy
    have oF : ¬ Foot rm fl as y := fun F => by
      obtain ⟨xs, e1⟩ := L.net.foot F
      rw [e] at e1
      cases e1
    have oy : Old C CN H rm fl as y := ⟨oF, _, e, fun D d f q => by
      cases q
      exact ⟨hS1, hS2⟩⟩
    refine ⟨dx, ?_⟩
    rw [(h y oy).2, es]
    exact e
  · have oa : Old C CN H rm fl as a := ⟨fun F => nF (.inl F), o, e, fun D d f q => absurd q (ni D d f)⟩
    obtain ⟨c1, c2⟩ := h a oa
    refine ⟨by rw [c2]; exact e, ?_⟩
    rintro (F | F)
    · exact c1 F
    · exact nF (.inr F)
/-- a call of a source -/
theorem LI.srcStep (hS1 : CS ≠ C) (hS2 : CS ≠ CN) (L : LI C CN CS K H a net S q rm fl as ss N s D) {k : Nat} {y : Addr} (hy : ss[k]? = some y) (U : SrcAt CS H1 y (NM.srcOf s' k)) (en : NM.netOf s' = NM.netOf s) (es : ∀ j, j ≠ k → NM.srcOf s' j = NM.srcOf s j)
    (kp : ∀ c o, H c = some o → c ≠ y → H1 c = some o) : LI C CN CS K H1 a net S q rm fl as ss N s' D := by
  obtain ⟨dy, ey⟩ := L.src k y hy
  have nl : ∀ c xs, H c = some (.lst xs) → c ≠ y := fun c xs e => ne_of e ey (by intro z; cases z)
  obtain ⟨dn, en'⟩ := L.net.ins
  have nn : net ≠ y := ne_of en' ey (by intro z; injection z with z; exact hS2 z.symm)
  refine ⟨?_, kp _ _ L.sl (nl _ _ L.sl), L.len, L.nd, fun j z hz => ?_, kp _ _ L.out (nl _ _ L.out), L.qS, L.fq, L.fS, L.cal.step fun o e ni nF => ⟨kp _ _ e fun z => ?_, nF⟩⟩
  · rw [en]
    refine L.net.keep kp nn (fun F => ?_) fun p hp => ?_
    · obtain ⟨xs, e⟩ := L.net.foot F
      exact nl _ _ e rfl
    · obtain ⟨d, f, e⟩ := L.net.ins_at hp
      exact ne_of e ey (by intro z; injection z with z; exact hS1 z.symm)
  · by_cases ej : j = k
    · subst ej
      rw [hy] at hz
      cases hz
      exact U
    · obtain ⟨d, e⟩ := L.src j z hz
      rw [es j ej]
      exact ⟨d, kp _ _ e fun q => ej (nd_ix L.nd hz (by rw [q]; exact hy))⟩
  · rw [z, ey] at e
    exact ni _ _ _ (Option.some.inj e).symm
/-- answered grows -/
theorem LI.put (L : LI C CN CS K H a net S q rm fl as ss N s D) {xs : List V} (e : xs = D'.map V.int) : LI C CN CS K (upd H q (.lst xs)) a net S q rm fl as ss N s D' := by
  subst e
  have kp : ∀ c o, H c = some o → c ≠ q → upd H q (.lst (D'.map V.int)) c = some o := fun c o e hc => by
    rw [upd_ne hc]
    exact e
  obtain ⟨dn, en⟩ := L.net.ins
  refine ⟨L.net.keep kp (ne_of en L.out (by intro z; cases z)) L.fq (fun p hp => ?_), kp _ _ L.sl L.qS.symm, L.len, L.nd, fun k y hy => ?_, upd_same, L.qS, L.fq, L.fS, L.cal.step fun o e ni nF => ⟨kp _ _ e fun z => nF (.inr z), nF⟩⟩
  · obtain ⟨d, f, e⟩ := L.net.ins_at hp
    exact ne_of e L.out (by intro z; cases z)
  · obtain ⟨d, e⟩ := L.src k y hy
    exact ⟨d, kp _ _ e (ne_of e L.out (by intro z; cases z))⟩
end
section
variable {P : Program} {w : World} {K : PySem.W.Frag} {mg : Str → Option Value} {base : Heap} {C CN CS : Addr}
/-- the loop, with the place that it has come to -/
def Lp (C CN CS : Addr) (K : PySem.W.Frag) (a x S q : Addr) (ss : List Addr) (N : List Nat) (i : Nat) (σ : L2.St) (H : Hp) : Prop :=
  ∃ (v5 v6 v7 : Option V) (rm fl : Addr) (as : List (Addr × Addr)) (t : Km357Neutral.S) (D : List Int), σ = [some (.ref a), some (.ref x), some (.ref S), some (.ref q), some (.int (i : Int)), v5, v6, v7] ∧ i ≤ N.length ∧
    LI C CN CS K H a x S q rm fl as ss N t D ∧ NM.SOk t ∧ NM.Left N (PyKm357.answers (NM.asInts N)) i t D ∧ D.length ≤ 18 * i
abbrev s_answers : Stmt := top 43
theorem sc_answers : FnScope ["calls", "net", "sources", "answered", "at", "end", "answer", "k"] ["calls"] (defScope s_answers) := ⟨rfl, rfl, rfl, by decide +kernel, rfl, by decide +kernel, by decide +kernel⟩

def sp_answers (K : PySem.W.Frag) : Sp := fun vs H Q _ => ∃ (a : Addr) (N : List Nat), vs = [.ref a] ∧ SqL K H a (vN N) ∧ N.length ≤ 30000 ∧ PyKm357.answers_asked (NM.asInts N) = true ∧
  ∀ (H' : Hp) (p : Addr), H' p = some (.lst ((PyKm357.answers (NM.asInts N)).map V.int)) → Q (.ref p) H'
theorem ok_answers {f : Addr} {fd : FuncData} (hC : C ≠ CN) (hS1 : CS ≠ C) (hS2 : CS ≠ CN) (T : Txt mg) (B : Blt mg) (Fn : Fun K "answers" "answers" s_answers f fd)
    (k_Net : HasC P w K mg base "Net" CN 1 ["self"] (sp_Net C CN)) (k_Source : HasC P w K mg base "Source" CS 1 ["self"] (sp_Source CS))
    (h_end_of_call : Has P w K mg base "end_of_call" 1 ["calls", "at"] (sp_end K)) (h_answer_of : Has P w K mg base "answer_of" 7 ["net", "sources", "call"] (sp_ans_of C CN CS)) :
    FnOk P w K mg base CX0 8 f fd ["calls"] (sp_answers K) := by
  refine Fn.ok sc_answers (fun vs H Q E h => ?_) (fun cdv A outer s H vs Q E hr h => ?_)
  · obtain ⟨a, N, rfl, _⟩ := h
    rfl
  · obtain ⟨a, N, rfl, hS, hlen, hask, k⟩ := h
    refine ⟨_, (pss_cons (ps_set (i := 1) sc_answers.nd rfl (Or.inl rfl) (pe_hasc0 k_Net hr (by decide) rfl)) (pss_cons (ps_setLc (i := 2) rfl sc_answers.nd rfl rfl (sw_true rfl rfl rfl rfl) (pi_range1 rfl B.range (pa_cons (pe_num T.SOURCES rfl) pa_nil)) (blkOk_by (own := [("k", 7)]) (show blkC ["calls", "net", "sources", "answered", "at", "end", "answer", "k"] (defScope s_answers) _ _ = true by decide +kernel)) (fun _ _ _ _ _ => pg_name (i := 7) sc_answers.nd rfl (Or.inl rfl)) (fun _ _ _ _ _ => pts_nil) (fun _ _ _ _ _ => (by exact (pe_hasc0 k_Source hr (by decide) rfl)))) (pss_cons (ps_set (i := 3) sc_answers.nd rfl (Or.inl rfl) (pe_lst pa_nil)) (pss_cons (ps_set (i := 4) sc_answers.nd rfl (Or.inl rfl) pe_int) (pss_cons (ps_while PassesOwn.never (pt_cmpR op_ltN (pv 4) (pe_callB call_len_seq (by rfl) B.len PySem.boot_len (pa_cons (pv 0) pa_nil)) (nomark _)) (pss_cons (ps_set (i := 5) sc_answers.nd rfl (Or.inl rfl) (pe_has h_end_of_call hr (by decide) rfl (pa_cons (pv 0) (pa_cons (pv 4) pa_nil)))) (pss_cons (ps_set (i := 6) sc_answers.nd rfl (Or.inl rfl) (pe_has h_answer_of hr (by decide) rfl (pa_cons (pv 1) (pa_cons (pv 2) (pa_cons (pe_slice sl_list (pv 0) (po_some (pv 4)) (po_some (pv 5))) pa_nil))))) (pss_cons (ps_expr (pe_bm PySem.F.plainAttrs_list PySem.F.slot_list_append PySem.F.type_list_append mt_append (pv 3) (pa_cons (pe_callB call_len_seq (by rfl) B.len PySem.boot_len (pa_cons (pv 6) pa_nil)) pa_nil))) (pss_cons (ps_expr (pe_bm PySem.F.plainAttrs_list PySem.F.slot_list_extend PySem.F.type_list_extend mt_extend (pv 3) (pa_cons (pv 6) pa_nil))) (pss_one (ps_set (i := 4) sc_answers.nd rfl (Or.inl rfl) (pv 5)))))))) (pss_one (ps_ret (pv 3)))))))), ?_⟩
    -- net = Net()
    refine fun x dx nx nd ne => ⟨x, dx, rfl, upd_same, fun H1 rm fl nrm nfl N1 kp => ⟨rfl, ?_⟩⟩
    have s1 : Same H H1 := Same.made nx nd kp
    have free1 : ∀ c, (upd (upd H dx (.own x)) x (.ins CN dx [])) c = none → H c = none := fun c e => by
      by_cases q1 : c = x
      · rw [q1, upd_same] at e
        cases e
      · rw [upd_ne q1] at e
        by_cases q2 : c = dx
        · rw [q2, upd_same] at e
          cases e
        · rw [upd_ne q2] at e
          exact e
    -- sources = [Source() for k in range(SOURCES)]
    refine ⟨4, rfl, by decide, by decide, fun S nS => ?_⟩
    refine lc_range (lo := 0) (n := 4) (fun i H' => ∃ ss : List Addr, H' S = some (.lst (ss.map V.ref)) ∧ ss.length = i ∧ ss.Nodup ∧ (∀ y ∈ ss, SrcAt CS H' y ⟨0, 0, 0⟩) ∧ Same H1 H') ⟨[], upd_same, rfl, List.nodup_nil, fun y hy => (by cases hy), Same.upd nS⟩ ?_ ?_
    · rintro i H' hi ⟨ss, p1, p2, p3, p4, p5⟩
      refine ⟨rfl, fun y dy ny ndy ney => ⟨y, dy, rfl, upd_same, fun H2 U kp2 => ⟨rfl, ss.map V.ref, ?_, ?_, ss ++ [y], ?_, ?_, ?_, ?_, ?_⟩⟩⟩
      · exact Same.made ny ndy kp2 _ _ p1
      · rw [List.length_map, p2]
        exact Nat.lt_trans hi (by decide)
      · rw [upd_same, List.map_append]
        rfl
      · rw [List.length_append, p2]
        rfl
      · rw [List.nodup_append]
        refine ⟨p3, by simp, fun u hu v hv q => ?_⟩
        have ev : v = y := by simpa using hv
        obtain ⟨d, e⟩ := p4 u hu
        rw [q, ev, ny] at e
        cases e
      · intro u hu
        have sm := Same.made ny ndy kp2
        have nSu : ∀ {d f}, H2 u = some (.ins CS d f) → u ≠ S := fun e => ne_of e (sm _ _ p1) (by intro z; cases z)
        rcases List.mem_append.mp hu with z | z
        · obtain ⟨d, e⟩ := p4 u z
          exact ⟨d, by rw [upd_ne (nSu (sm _ _ e))]; exact sm _ _ e⟩
        · have ev : u = y := by simpa using z
          subst ev
          obtain ⟨d, e⟩ := U
          exact ⟨d, by rw [upd_ne (nSu e)]; exact e⟩
      · intro c o e
        rw [upd_ne (ne_of_none e nS)]
        exact Same.made ny ndy kp2 _ _ (p5 c o e)
    · rintro H2 ⟨ss, p1, p2, p3, p4, p5⟩
      -- answered = []; at = 0
      refine ⟨Nat.zero_le _, fun q hq => ?_⟩
      have s3 : Same H2 (upd H2 q (.lst [])) := Same.upd hq
      have s2 : Same H (upd H2 q (.lst [])) := (s1.trans p5).trans s3
      have sN : Same H1 (upd H2 q (.lst [])) := p5.trans s3
      have nq1 : H1 q = none := p5.free hq
      have nfoot : ∀ c, Foot rm fl [] c → H c = none := by
        rintro c (e | e | ⟨p, hp, _⟩)
        · rw [e]; exact free1 _ nrm
        · rw [e]; exact free1 _ nfl
        · cases hp
      have tracked : ∀ c, Foot rm fl [] c → ∃ o, H1 c = some o := fun c F => by
        obtain ⟨xs, e⟩ := N1.foot F
        exact ⟨_, e⟩
      have L0 : LI C CN CS K (upd H2 q (.lst [])) a x S q rm fl [] ss N Km357Neutral.start [] := by
        refine ⟨N1.same sN, s3 _ _ p1, p2, p3, fun j y hy => ?_, upd_same, (ne_of_none p1 hq).symm, fun F => ?_, fun F => ?_, CAt.of hS s2 ?_⟩
        · obtain ⟨d, e⟩ := p4 y (List.mem_of_getElem? hy)
          have lj := (List.getElem?_eq_some_iff.mp hy).1
          rw [p2] at lj
          have e0 : NM.srcOf Km357Neutral.start j = ⟨0, 0, 0⟩ := by
            match j, lj with
            | 0, _ => rfl
            | 1, _ => rfl
            | 2, _ => rfl
            | 3, _ => rfl
          rw [e0]
          exact ⟨d, s3 _ _ e⟩
        · obtain ⟨o, e⟩ := tracked q F
          rw [nq1] at e
          cases e
        · obtain ⟨o, e⟩ := tracked S F
          rw [nS] at e
          cases e
        · rintro c (F | F)
          · exact nfoot c F
          · rw [F]
            exact s1.free nq1
      have F0 := NM.Left.start hask
      -- while at < len(calls)
      refine ⟨fun m σ H' => ∃ i, m = N.length - i ∧ Lp C CN CS K a x S q ss N i σ H', ⟨N.length, 0, rfl, none, none, _, rm, fl, [], Km357Neutral.start, [], rfl, Nat.zero_le _, L0, NM.start_ok, F0, Nat.zero_le _⟩, ?_⟩
      rintro m0 σ H3 ⟨i, rfl, v5, v6, v7, rm, fl, as, t, D, rfl, hi, L, ok, lf, hD⟩
      refine ⟨_, rfl, _, rfl, a, _, rfl, .inl L.cal.sq, i, N.length, rfl, (by rw [vN_length]), _, rfl, ?_⟩
      refine iteD (fun c => ?_) (fun c => ?_)
      · obtain ⟨m, y, kk, t', tn, ok', st⟩ := lf.go ok c
        have hm := tn.pos
        rw [List.length_drop] at hm
        refine ⟨fun σ' H' => Lp C CN CS K a x S q ss N (i + m) σ' H', fun σ' H' h => ⟨N.length - (i + m), by omega, i + m, rfl, h⟩, ?_⟩
        refine ⟨_, rfl, _, rfl, a, i, m, kk, y, N, rfl, L.cal.sq, tn, fun H4 s4 => ?_⟩
        have L4 := L.same s4
        refine ⟨_, rfl, _, rfl, _, rfl, _, rfl, _, rfl, _, rfl, _, rfl, a, _, rfl, L4.cal.sq, fun b hb => ?_⟩
        have ec : cutV (vN N) (some (i : Int)) (some ((i + m : Nat) : Int)) = vN ((N.drop i).take m) := (cut_both _ i m (by rw [vN_length]; omega)).trans (by rw [vN_drop, vN_take])
        rw [ec]
        have L5 := L4.same (Same.upd (o := .lst (vN ((N.drop i).take m))) hb)
        refine ⟨x, S, b, m, kk, y, N.drop i, rfl, upd_same, tn, ?_⟩
        rcases st with ⟨hw, en, es, lf'⟩ | ⟨hw, hk, en, ek, es, lf'⟩
        · refine .inl ⟨hw, rm, fl, as, NM.netOf t, L5.net, fun H6 rm' fl' as' p NA h hp => ?_⟩
          have L6 : LI C CN CS K H6 a x S q rm' fl' as' ss N t' D := L5.netStep hS1 hS2 (by rw [en]; exact NA) es fun c hc => ⟨(h c hc).1, (h c hc).2.2⟩
          have nqp : q ≠ p := (h q ⟨L5.fq, _, L5.out, ni_lst⟩).2.1
          have hA := NM.n_len (NM.netOf t) y
          generalize Km357Neutral.told (Km357.nDoes (NM.netOf t) y).2 = AA at hA hp lf'
          refine ⟨_, rfl, .inl ⟨rfl, _, SqL.of L6.out⟩, _, rfl, p, _, rfl, .inl (SqL.of hp), q, _, _, rfl, rfl, L6.out, (by rw [List.length_map]; exact Nat.lt_of_le_of_lt (show D.length ≤ 540000 by omega) (by decide)), ?_⟩
          refine ⟨_, rfl, .inl ⟨rfl, _, SqL.of upd_same⟩, _, rfl, q, p, _, _, rfl, rfl, upd_same, (by rw [upd_ne nqp.symm]; exact hp), (by rw [List.length_append, List.length_map, List.length_map]; exact Nat.le_trans (show D.length + 1 + _ ≤ 540018 by omega) (by decide)), ?_⟩
          refine ⟨_, rfl, ?_⟩
          rw [upd_upd]
          refine ⟨_, _, _, _, _, _, t', _, rfl, by omega, L6.put (D' := D ++ (AA.length : Int) :: AA) ?_, ok', lf', ?_⟩
          · rw [List.map_append, List.map_cons, List.length_map, List.append_assoc]
            rfl
          · rw [List.length_append, List.length_cons]
            omega
        · obtain ⟨z, hz⟩ : ∃ z, ss[kk]? = some z := ⟨_, List.getElem?_eq_getElem (by rw [p2]; exact hk)⟩
          refine .inr ⟨hw, _, z, NM.srcOf t kk, L5.sl, atI_nat (by rw [List.getElem?_map, hz]; rfl), L5.src kk z hz, fun H6 p U kp np hp => ?_⟩
          have L6 : LI C CN CS K H6 a x S q rm fl as ss N t' D := L5.srcStep hS1 hS2 hz (by rw [ek]; exact U) en es kp
          have nqp : q ≠ p := ne_of_none L5.out np
          have hA := NM.s_len (NM.srcOf t kk) y
          generalize Km357Neutral.told (Km357.sDoes (NM.srcOf t kk) y).2 = AA at hA hp lf'
          refine ⟨_, rfl, .inl ⟨rfl, _, SqL.of L6.out⟩, _, rfl, p, _, rfl, .inl (SqL.of hp), q, _, _, rfl, rfl, L6.out, (by rw [List.length_map]; exact Nat.lt_of_le_of_lt (show D.length ≤ 540000 by omega) (by decide)), ?_⟩
          refine ⟨_, rfl, .inl ⟨rfl, _, SqL.of upd_same⟩, _, rfl, q, p, _, _, rfl, rfl, upd_same, (by rw [upd_ne nqp.symm]; exact hp), (by rw [List.length_append, List.length_map, List.length_map]; exact Nat.le_trans (show D.length + 1 + _ ≤ 540018 by omega) (by decide)), ?_⟩
          refine ⟨_, rfl, ?_⟩
          rw [upd_upd]
          refine ⟨_, _, _, _, _, _, t', _, rfl, by omega, L6.put (D' := D ++ (AA.length : Int) :: AA) ?_, ok', lf', ?_⟩
          · rw [List.map_append, List.map_cons, List.length_map, List.append_assoc]
            rfl
          · rw [List.length_append, List.length_cons]
            omega
      · have e := lf.done (Nat.not_lt.mp c)
        refine ⟨_, rfl, k H3 q ?_⟩
        rw [e]
        exact L.out
end
end NB
set_option Elab.async false
set_option linter.all false
set_option maxRecDepth 100000
set_option maxHeartbeats 2000000
namespace NB
open PySem PySem.Spec PyProof.Rows L2
/-! ### what the module's top has written -/
def Glob (K : PySem.W.Frag) (mg : Str → Option Value) (x : Str) (st : Stmt) : Prop := ∃ (f : Addr) (fd : FuncData), mg x = some (.ref f) ∧ Fun K x x st f fd
def Mth (K : PySem.W.Frag) (C : Addr) (m qual : Str) (st : Stmt) : Prop := ∃ (f : Addr) (fd : FuncData), Meth K C m f ∧ Fun K m qual st f fd
def Cla (K : PySem.W.Frag) (mg : Str → Option Value) (x : Str) (C : Addr) (qual : Str) (st : Stmt) : Prop := ∃ (f : Addr) (fd : FuncData), mg x = some (.ref C) ∧ Mk K C f ∧ Fun K "__init__" qual st f fd
section
variable {P : Program} {w : World} {K : PySem.W.Frag} {mg : Str → Option Value} {base h : Heap} {C : Addr} {x m qual : Str} {st : Stmt} {k : Nat} {ps : List Str} {sp : Sp}
theorem glob_mk (X : K.In h) (G : h.Ns mainGlobals mg) {f : Addr} {oc : Value} {od an : Option Addr} {osl : Array (Option Value)} {kV doc pm cdv ct : Value} (a : PySem.W.nsIn K mainGlobals x = some (some (.ref f)))
    (l : K.lookup f = some ⟨oc, od, .func (PySem.W.fnOf x x (defArgs st) (defBody st) (defScope st) .none kV doc pm an cdv ct), osl⟩) (c : PySem.W.codeIn K cdv x = true) (kp : PySem.W.keepIn K (.ref f) = true) : Glob K mg x st :=
  ⟨f, _, PySem.W.mg_of X G a, fun_mk l c kp⟩
theorem meth_mk {f : Addr} {oc : Value} {od an : Option Addr} {osl : Array (Option Value)} {kV doc pm cdv ct : Value} (a : PySem.W.findIn K (.ref C) m = some (some (.ref f))) (i : PySem.W.isFn K (.ref f) = true)
    (l : K.lookup f = some ⟨oc, od, .func (PySem.W.fnOf m qual (defArgs st) (defBody st) (defScope st) .none kV doc pm an cdv ct), osl⟩) (c : PySem.W.codeIn K cdv qual = true) (kp : PySem.W.keepIn K (.ref f) = true) : Mth K C m qual st :=
  ⟨f, _, ⟨a, i, kp⟩, fun_mk l c kp⟩
theorem cla_mk (X : K.In h) (G : h.Ns mainGlobals mg) {f : Addr} {oc : Value} {od an : Option Addr} {osl : Array (Option Value)} {kV doc pm cdv ct : Value} (aC : PySem.W.nsIn K mainGlobals x = some (some (.ref C))) (mk : PySem.W.makesIn K C = true)
    (a : PySem.W.findIn K (.ref C) "__init__" = some (some (.ref f))) (i : PySem.W.isFn K (.ref f) = true) (kc : PySem.W.keepIn K (.ref C) = true)
    (l : K.lookup f = some ⟨oc, od, .func (PySem.W.fnOf "__init__" qual (defArgs st) (defBody st) (defScope st) .none kV doc pm an cdv ct), osl⟩) (c : PySem.W.codeIn K cdv qual = true) (kp : PySem.W.keepIn K (.ref f) = true) : Cla K mg x C qual st :=
  ⟨f, _, PySem.W.mg_of X G aC, ⟨mk, a, i, kc⟩, fun_mk l c kp⟩
theorem int_mk (X : K.In h) (G : h.Ns mainGlobals mg) {v : Int} {t : Nat} (a : PySem.W.nsIn K mainGlobals x = some (some (.int v t))) : IntAt mg x v := ⟨t, PySem.W.mg_of X G a⟩
/-- how arguments bind, no defaults -/
def Bnd (x qual : Str) (st : Stmt) (ps : List Str) : Prop := ∀ (kV doc pm : Value) (an : Option Addr) (cdv ct : Value) (us : List Value), us.length = ps.length → bindArgs (PySem.W.fnOf x qual (defArgs st) (defBody st) (defScope st) .none kV doc pm an cdv ct) ⟨us, []⟩ = pure (ps.zip us)
theorem Glob.has (d : Glob K mg x st) (b : Bnd x x st ps) (ok : ∀ f fd, Fun K x x st f fd → FnOk P w K mg base CX0 k f fd ps sp) : Has P w K mg base x k ps sp := by
  obtain ⟨f, fd, e, F⟩ := d
  exact ⟨f, fd, e, F.kp, F.binds b, ok f fd F⟩
theorem Mth.has (cl : Cls K C) (d : Mth K C m qual st) (b : Bnd m qual st ps) (ok : ∀ f fd, Fun K m qual st f fd → FnOk P w K mg base CX0 k f fd ps sp) : HasM P w K mg base C m k ps sp := by
  obtain ⟨f, fd, e, F⟩ := d
  exact ⟨cl, f, fd, e, F.binds b, ok f fd F⟩
theorem Cla.has (d : Cla K mg x C qual st) (b : Bnd "__init__" qual st ps) (ok : ∀ f fd, Fun K "__init__" qual st f fd → FnOk P w K mg base CX0 k f fd ps sp) : HasC P w K mg base x C k ps sp := by
  obtain ⟨f, fd, e, M, F⟩ := d
  exact ⟨f, fd, e, M, F.binds b, ok f fd F⟩
end
theorem ints_nats {l : List Int} (h : ∀ z ∈ l, 0 ≤ z) : NM.asInts (l.map Int.toNat) = l := by
  unfold NM.asInts
  rw [List.map_map]
  have e : l.map ((fun (x : Nat) => (x : Int)) ∘ Int.toNat) = l.map id := List.map_congr_left fun z hz => Int.toNat_of_nonneg (h z hz)
  rw [e, List.map_id]
theorem all_mk {P : Program} {w : World} {K : PySem.W.Frag} {mg : Str → Option Value} {C CN CS fa : Addr} (hfa : mg "answers" = some (.ref fa)) (T : Txt mg) (B : Blt mg) (TF : ClsF K C) (TN : ClsN K CN) (TS : ClsS K CS)
    (z1 : PySem.W.findIn K (.ref C) "plan" = some none) (z2 : PySem.W.findIn K (.ref C) "ss_say" = some none) (z3 : PySem.W.findIn K (.ref CN) "ss_say" = some none)
    (c_Flow : Cla K mg "Flow" C "Flow.__init__" s_Flow_init)
    (c_Net : Cla K mg "Net" CN "Net.__init__" s_Net_init)
    (c_Source : Cla K mg "Source" CS "Source.__init__" s_Source_init)
    (g_low_byte_first : Glob K mg "low_byte_first" s_low_byte_first)
    (g_number_in : Glob K mg "number_in" s_number_in)
    (g_crc_32c : Glob K mg "crc_32c" s_crc_32c)
    (g_message_of : Glob K mg "message_of" s_message_of)
    (g_is_right : Glob K mg "is_right" s_is_right)
    (g_lines_of : Glob K mg "lines_of" s_lines_of)
    (g_has_room : Glob K mg "has_room" s_has_room)
    (g_give_round : Glob K mg "give_round" s_give_round)
    (g_fair_shares : Glob K mg "fair_shares" s_fair_shares)
    (g_end_of_call : Glob K mg "end_of_call" s_end_of_call)
    (g_answer_of_net : Glob K mg "answer_of_net" s_answer_of_net)
    (g_answer_of_source : Glob K mg "answer_of_source" s_answer_of_source)
    (g_answer_of : Glob K mg "answer_of" s_answer_of)
    (g_answers : Glob K mg "answers" s_answers)
    (t_may_use : Mth K C "may_use" "Flow.may_use" s_may_use)
    (t_can_be_told : Mth K C "can_be_told" "Flow.can_be_told" s_can_be_told)
    (t_tell : Mth K C "tell" "Flow.tell" s_tell)
    (t_sn_start : Mth K CN "sn_start" "Net.sn_start" s_sn_start)
    (t_sn_flow : Mth K CN "sn_flow" "Net.sn_flow" s_sn_flow)
    (t_sn_wish : Mth K CN "sn_wish" "Net.sn_wish" s_sn_wish)
    (t_sn_say : Mth K CN "sn_say" "Net.sn_say" s_sn_say)
    (t_sn_heard : Mth K CN "sn_heard" "Net.sn_heard" s_sn_heard)
    (t_sn_of : Mth K CN "sn_of" "Net.sn_of" s_sn_of)
    (t_plan : Mth K CN "plan" "Net.plan" s_plan)
    (t_raise_towards : Mth K CN "raise_towards" "Net.raise_towards" s_raise_towards)
    (t_spare_on : Mth K CN "spare_on" "Net.spare_on" s_spare_on)
    (t_ss_start : Mth K CS "ss_start" "Source.ss_start" s_ss_start)
    (t_ss_heard : Mth K CS "ss_heard" "Source.ss_heard" s_ss_heard)
    (t_ss_say : Mth K CS "ss_say" "Source.ss_say" s_ss_say)
    (t_ss_share : Mth K CS "ss_share" "Source.ss_share" s_ss_share) :
    ∃ fd : FuncData, (∀ (s : Shared) (us : List Value), us.length = (["calls"] : List Str).length → BindsTo s fd ⟨us, []⟩ ((["calls"] : List Str).zip us)) ∧ ∀ base : Heap, K.In base → base.Ns mainGlobals mg → FnOk P w K mg base CX0 8 fa fd ["calls"] (sp_answers K) := by
  have hC : C ≠ CN := fun e => by
    obtain ⟨f, fd, M, _⟩ := t_plan
    have q := M.at_
    rw [← e, z1] at q
    cases q
  have hS1 : CS ≠ C := fun e => by
    obtain ⟨f, fd, M, _⟩ := t_ss_say
    have q := M.at_
    rw [e, z2] at q
    cases q
  have hS2 : CS ≠ CN := fun e => by
    obtain ⟨f, fd, M, _⟩ := t_ss_say
    have q := M.at_
    rw [e, z3] at q
    cases q
  obtain ⟨f, fd, e, Fn⟩ := g_answers
  have e := hfa.symm.trans e
  cases e
  refine ⟨fd, ?_, fun base _ _ => ?_⟩
  · obtain ⟨oc, od, kV, doc, pm, an, cdv, ct, osl, rfl, lk, hcd⟩ := Fn.ex
    exact fun s us hu => match us, hu with | [_], _ => .of_eq rfl
  have h_low_byte_first : Has P w K mg base "low_byte_first" 1 ["number"] sp_low := g_low_byte_first.has (fun _ _ _ _ _ _ us hl => match us, hl with | [_], _ => rfl) fun f fd F => ok_low_byte_first F
  have h_number_in : Has P w K mg base "number_in" 1 ["message", "at"] (sp_num K) := g_number_in.has (fun _ _ _ _ _ _ us hl => match us, hl with | [_, _], _ => rfl) fun f fd F => ok_number_in F
  have h_crc_32c : Has P w K mg base "crc_32c" 1 ["row"] (sp_crc K) := g_crc_32c.has (fun _ _ _ _ _ _ us hl => match us, hl with | [_], _ => rfl) fun f fd F => ok_crc_32c T B F
  have h_message_of : Has P w K mg base "message_of" 2 ["kind", "flow", "number", "share"] sp_msg := g_message_of.has (fun _ _ _ _ _ _ us hl => match us, hl with | [_, _, _, _], _ => rfl) fun f fd F => ok_message_of F h_low_byte_first h_crc_32c
  have h_is_right : Has P w K mg base "is_right" 2 ["message"] (sp_right K) := g_is_right.has (fun _ _ _ _ _ _ us hl => match us, hl with | [_], _ => rfl) fun f fd F => ok_is_right T F h_number_in h_crc_32c
  have h_lines_of : Has P w K mg base "lines_of" 1 ["path"] sp_lines := g_lines_of.has (fun _ _ _ _ _ _ us hl => match us, hl with | [_], _ => rfl) fun f fd F => ok_lines_of T B F
  have k_Flow : HasC P w K mg base "Flow" C 2 ["self", "path", "wish"] (sp_Flow C) := c_Flow.has (fun _ _ _ _ _ _ us hl => match us, hl with | [_, _, _], _ => rfl) fun f fd F => ok_Flow TF F h_lines_of
  have m_may_use : HasM P w K mg base C "may_use" 1 ["self"] (sp_use C) := t_may_use.has TF.cl (fun _ _ _ _ _ _ us hl => match us, hl with | [_], _ => rfl) fun f fd F => ok_may_use TF B F
  have m_can_be_told : HasM P w K mg base C "can_be_told" 1 ["self"] (sp_can C) := t_can_be_told.has TF.cl (fun _ _ _ _ _ _ us hl => match us, hl with | [_], _ => rfl) fun f fd F => ok_can_be_told TF T F
  have m_tell : HasM P w K mg base C "tell" 1 ["self", "share"] (sp_tell C) := t_tell.has TF.cl (fun _ _ _ _ _ _ us hl => match us, hl with | [_, _], _ => rfl) fun f fd F => ok_tell TF F
  have h_has_room : Has P w K mg base "has_room" 1 ["left", "lines"] (sp_room K) := g_has_room.has (fun _ _ _ _ _ _ us hl => match us, hl with | [_, _], _ => rfl) fun f fd F => ok_has_room F
  have h_give_round : Has P w K mg base "give_round" 2 ["left", "flows", "shares"] (sp_give C) := g_give_round.has (fun _ _ _ _ _ _ us hl => match us, hl with | [_, _, _], _ => rfl) fun f fd F => ok_give_round TF B F h_has_room
  have h_fair_shares : Has P w K mg base "fair_shares" 3 ["room", "flows"] (sp_fair K C) := g_fair_shares.has (fun _ _ _ _ _ _ us hl => match us, hl with | [_, _], _ => rfl) fun f fd F => ok_fair_shares B F h_give_round
  have k_Net : HasC P w K mg base "Net" CN 1 ["self"] (sp_Net C CN) := c_Net.has (fun _ _ _ _ _ _ us hl => match us, hl with | [_], _ => rfl) fun f fd F => ok_Net TN F
  have m_sn_start : HasM P w K mg base CN "sn_start" 1 ["self", "room"] (sp_sn_start C CN) := t_sn_start.has TN.cl (fun _ _ _ _ _ _ us hl => match us, hl with | [_, _], _ => rfl) fun f fd F => ok_sn_start T TN B F
  have m_sn_say : HasM P w K mg base CN "sn_say" 3 ["self", "flow"] (sp_sn_say C CN) := t_sn_say.has TN.cl (fun _ _ _ _ _ _ us hl => match us, hl with | [_, _], _ => rfl) fun f fd F => ok_sn_say T TF TN B F h_message_of
  have m_sn_of : HasM P w K mg base CN "sn_of" 4 ["self", "flow"] (sp_sn_of C CN) := t_sn_of.has TN.cl (fun _ _ _ _ _ _ us hl => match us, hl with | [_, _], _ => rfl) fun f fd F => ok_sn_of T TF TN B F h_fair_shares m_may_use
  have m_spare_on : HasM P w K mg base CN "spare_on" 2 ["self", "line"] (sp_spare C CN) := t_spare_on.has TN.cl (fun _ _ _ _ _ _ us hl => match us, hl with | [_, _], _ => rfl) fun f fd F => ok_spare_on TF TN B F m_may_use
  have m_raise_towards : HasM P w K mg base CN "raise_towards" 3 ["self", "flow", "fair"] (sp_raise C CN) := t_raise_towards.has TN.cl (fun _ _ _ _ _ _ us hl => match us, hl with | [_, _, _], _ => rfl) fun f fd F => ok_raise_towards hC TF TN B F m_spare_on m_tell
  have m_plan : HasM P w K mg base CN "plan" 4 ["self"] (sp_plan C CN) := t_plan.has TN.cl (fun _ _ _ _ _ _ us hl => match us, hl with | [_], _ => rfl) fun f fd F => ok_plan hC TF TN B F h_fair_shares m_can_be_told m_tell m_raise_towards
  have m_sn_flow : HasM P w K mg base CN "sn_flow" 5 ["self", "path", "most"] (sp_sn_flow C CN) := t_sn_flow.has TN.cl (fun _ _ _ _ _ _ us hl => match us, hl with | [_, _, _], _ => rfl) fun f fd F => ok_sn_flow T TN B F k_Flow m_plan
  have m_sn_wish : HasM P w K mg base CN "sn_wish" 5 ["self", "flow", "most"] (sp_sn_wish C CN) := t_sn_wish.has TN.cl (fun _ _ _ _ _ _ us hl => match us, hl with | [_, _, _], _ => rfl) fun f fd F => ok_sn_wish hC T TF TN B F m_plan
  have m_sn_heard : HasM P w K mg base CN "sn_heard" 5 ["self", "message"] (sp_sn_heard C CN) := t_sn_heard.has TN.cl (fun _ _ _ _ _ _ us hl => match us, hl with | [_, _], _ => rfl) fun f fd F => ok_sn_heard hC T TF TN B F h_is_right h_number_in m_plan
  have k_Source : HasC P w K mg base "Source" CS 1 ["self"] (sp_Source CS) := c_Source.has (fun _ _ _ _ _ _ us hl => match us, hl with | [_], _ => rfl) fun f fd F => ok_Source TS F
  have m_ss_start : HasM P w K mg base CS "ss_start" 1 ["self", "me"] (sp_ss_start CS) := t_ss_start.has TS.cl (fun _ _ _ _ _ _ us hl => match us, hl with | [_, _], _ => rfl) fun f fd F => ok_ss_start T TS F
  have m_ss_heard : HasM P w K mg base CS "ss_heard" 3 ["self", "message"] (sp_ss_heard CS) := t_ss_heard.has TS.cl (fun _ _ _ _ _ _ us hl => match us, hl with | [_, _], _ => rfl) fun f fd F => ok_ss_heard T TS F h_is_right h_number_in
  have m_ss_say : HasM P w K mg base CS "ss_say" 3 ["self"] (sp_ss_say CS) := t_ss_say.has TS.cl (fun _ _ _ _ _ _ us hl => match us, hl with | [_], _ => rfl) fun f fd F => ok_ss_say T TS F h_message_of
  have m_ss_share : HasM P w K mg base CS "ss_share" 1 ["self"] (sp_ss_share CS) := t_ss_share.has TS.cl (fun _ _ _ _ _ _ us hl => match us, hl with | [_], _ => rfl) fun f fd F => ok_ss_share TS F
  have h_end_of_call : Has P w K mg base "end_of_call" 1 ["calls", "at"] (sp_end K) := g_end_of_call.has (fun _ _ _ _ _ _ us hl => match us, hl with | [_, _], _ => rfl) fun f fd F => ok_end_of_call T F
  have h_answer_of_net : Has P w K mg base "answer_of_net" 6 ["net", "call"] (sp_ans_net C CN) := g_answer_of_net.has (fun _ _ _ _ _ _ us hl => match us, hl with | [_, _], _ => rfl) fun f fd F => ok_answer_of_net T F m_sn_start m_sn_flow m_sn_wish m_sn_say m_sn_heard m_sn_of
  have h_answer_of_source : Has P w K mg base "answer_of_source" 4 ["source", "call"] (sp_ans_src CS) := g_answer_of_source.has (fun _ _ _ _ _ _ us hl => match us, hl with | [_, _], _ => rfl) fun f fd F => ok_answer_of_source T F m_ss_start m_ss_heard m_ss_say m_ss_share
  have h_answer_of : Has P w K mg base "answer_of" 7 ["net", "sources", "call"] (sp_ans_of C CN CS) := g_answer_of.has (fun _ _ _ _ _ _ us hl => match us, hl with | [_, _, _], _ => rfl) fun f fd F => ok_answer_of T F h_answer_of_net h_answer_of_source
  exact ok_answers hC hS1 hS2 T B Fn k_Net k_Source h_end_of_call h_answer_of
end NB
open PySem PySem.W PyProof.Rows
set_option maxRecDepth 100000 in
set_option maxHeartbeats 0 in
theorem PySem.Challenge.cw_netshares_s01_answers_holds : PySem.Challenge.rw_netshares_s01_answers.Holds := by
  w_on; k_headS; (case hw => exact ⟨[.list [.int 0, .int 0, .int 1, .int 0]], by decide +kernel, by decide +kernel⟩)
  k_fillS
  refine L2.walk_specK (r := PySem.Challenge.rw_netshares_s01_answers) (k := 8) (CX := L2.CX0) (ps := ["calls"]) (sp := NB.sp_answers) (by decide +kernel) rfl rfl ⟨rfl, by decide, by decide⟩ (fun w h Y => PySem.W.kIn_of Y) ?F ?S (fun _ _ _ _ z => z)
  case F =>
    intro w mg fa h Y KX G hmg
    refine' NB.all_mk hmg ?T ?B ?TF ?TN ?TS ?z1 ?z2 ?z3 ?c_Flow ?c_Net ?c_Source ?g_low_byte_first ?g_number_in ?g_crc_32c ?g_message_of ?g_is_right ?g_lines_of ?g_has_room ?g_give_round ?g_fair_shares ?g_end_of_call ?g_answer_of_net ?g_answer_of_source ?g_answer_of ?g_answers ?t_may_use ?t_can_be_told ?t_tell ?t_sn_start ?t_sn_flow ?t_sn_wish ?t_sn_say ?t_sn_heard ?t_sn_of ?t_plan ?t_raise_towards ?t_spare_on ?t_ss_start ?t_ss_heard ?t_ss_say ?t_ss_share
    (case c_Flow => (refine' NB.cla_mk KX G ?aC ?mk ?a ?i ?kc ?l ?c ?kp; (case aC => k_is); (case mk => k_is); (case a => k_is); (case i => k_is); (case kc => k_is); (case l => k_is); (case c => k_is); (case kp => k_is)))
    (case c_Net => (refine' NB.cla_mk KX G ?aC ?mk ?a ?i ?kc ?l ?c ?kp; (case aC => k_is); (case mk => k_is); (case a => k_is); (case i => k_is); (case kc => k_is); (case l => k_is); (case c => k_is); (case kp => k_is)))
    (case c_Source => (refine' NB.cla_mk KX G ?aC ?mk ?a ?i ?kc ?l ?c ?kp; (case aC => k_is); (case mk => k_is); (case a => k_is); (case i => k_is); (case kc => k_is); (case l => k_is); (case c => k_is); (case kp => k_is)))
    (case g_low_byte_first => (refine' NB.glob_mk KX G ?a ?l ?c ?kp; (case a => k_is); (case l => k_is); (case c => k_is); (case kp => k_is)))
    (case g_number_in => (refine' NB.glob_mk KX G ?a ?l ?c ?kp; (case a => k_is); (case l => k_is); (case c => k_is); (case kp => k_is)))
    (case g_crc_32c => (refine' NB.glob_mk KX G ?a ?l ?c ?kp; (case a => k_is); (case l => k_is); (case c => k_is); (case kp => k_is)))
    (case g_message_of => (refine' NB.glob_mk KX G ?a ?l ?c ?kp; (case a => k_is); (case l => k_is); (case c => k_is); (case kp => k_is)))
    (case g_is_right => (refine' NB.glob_mk KX G ?a ?l ?c ?kp; (case a => k_is); (case l => k_is); (case c => k_is); (case kp => k_is)))
    (case g_lines_of => (refine' NB.glob_mk KX G ?a ?l ?c ?kp; (case a => k_is); (case l => k_is); (case c => k_is); (case kp => k_is)))
    (case g_has_room => (refine' NB.glob_mk KX G ?a ?l ?c ?kp; (case a => k_is); (case l => k_is); (case c => k_is); (case kp => k_is)))
    (case g_give_round => (refine' NB.glob_mk KX G ?a ?l ?c ?kp; (case a => k_is); (case l => k_is); (case c => k_is); (case kp => k_is)))
    (case g_fair_shares => (refine' NB.glob_mk KX G ?a ?l ?c ?kp; (case a => k_is); (case l => k_is); (case c => k_is); (case kp => k_is)))
    (case g_end_of_call => (refine' NB.glob_mk KX G ?a ?l ?c ?kp; (case a => k_is); (case l => k_is); (case c => k_is); (case kp => k_is)))
    (case g_answer_of_net => (refine' NB.glob_mk KX G ?a ?l ?c ?kp; (case a => k_is); (case l => k_is); (case c => k_is); (case kp => k_is)))
    (case g_answer_of_source => (refine' NB.glob_mk KX G ?a ?l ?c ?kp; (case a => k_is); (case l => k_is); (case c => k_is); (case kp => k_is)))
    (case g_answer_of => (refine' NB.glob_mk KX G ?a ?l ?c ?kp; (case a => k_is); (case l => k_is); (case c => k_is); (case kp => k_is)))
    (case g_answers => (refine' NB.glob_mk KX G ?a ?l ?c ?kp; (case a => k_is); (case l => k_is); (case c => k_is); (case kp => k_is)))
    (case t_may_use => (refine' NB.meth_mk ?a ?i ?l ?c ?kp; (case a => k_is); (case i => k_is); (case l => k_is); (case c => k_is); (case kp => k_is)))
    (case t_can_be_told => (refine' NB.meth_mk ?a ?i ?l ?c ?kp; (case a => k_is); (case i => k_is); (case l => k_is); (case c => k_is); (case kp => k_is)))
    (case t_tell => (refine' NB.meth_mk ?a ?i ?l ?c ?kp; (case a => k_is); (case i => k_is); (case l => k_is); (case c => k_is); (case kp => k_is)))
    (case t_sn_start => (refine' NB.meth_mk ?a ?i ?l ?c ?kp; (case a => k_is); (case i => k_is); (case l => k_is); (case c => k_is); (case kp => k_is)))
    (case t_sn_flow => (refine' NB.meth_mk ?a ?i ?l ?c ?kp; (case a => k_is); (case i => k_is); (case l => k_is); (case c => k_is); (case kp => k_is)))
    (case t_sn_wish => (refine' NB.meth_mk ?a ?i ?l ?c ?kp; (case a => k_is); (case i => k_is); (case l => k_is); (case c => k_is); (case kp => k_is)))
    (case t_sn_say => (refine' NB.meth_mk ?a ?i ?l ?c ?kp; (case a => k_is); (case i => k_is); (case l => k_is); (case c => k_is); (case kp => k_is)))
    (case t_sn_heard => (refine' NB.meth_mk ?a ?i ?l ?c ?kp; (case a => k_is); (case i => k_is); (case l => k_is); (case c => k_is); (case kp => k_is)))
    (case t_sn_of => (refine' NB.meth_mk ?a ?i ?l ?c ?kp; (case a => k_is); (case i => k_is); (case l => k_is); (case c => k_is); (case kp => k_is)))
    (case t_plan => (refine' NB.meth_mk ?a ?i ?l ?c ?kp; (case a => k_is); (case i => k_is); (case l => k_is); (case c => k_is); (case kp => k_is)))
    (case t_raise_towards => (refine' NB.meth_mk ?a ?i ?l ?c ?kp; (case a => k_is); (case i => k_is); (case l => k_is); (case c => k_is); (case kp => k_is)))
    (case t_spare_on => (refine' NB.meth_mk ?a ?i ?l ?c ?kp; (case a => k_is); (case i => k_is); (case l => k_is); (case c => k_is); (case kp => k_is)))
    (case t_ss_start => (refine' NB.meth_mk ?a ?i ?l ?c ?kp; (case a => k_is); (case i => k_is); (case l => k_is); (case c => k_is); (case kp => k_is)))
    (case t_ss_heard => (refine' NB.meth_mk ?a ?i ?l ?c ?kp; (case a => k_is); (case i => k_is); (case l => k_is); (case c => k_is); (case kp => k_is)))
    (case t_ss_say => (refine' NB.meth_mk ?a ?i ?l ?c ?kp; (case a => k_is); (case i => k_is); (case l => k_is); (case c => k_is); (case kp => k_is)))
    (case t_ss_share => (refine' NB.meth_mk ?a ?i ?l ?c ?kp; (case a => k_is); (case i => k_is); (case l => k_is); (case c => k_is); (case kp => k_is)))
    (case z1 => k_is); (case z2 => k_is); (case z3 => k_is)
    (case TF => (refine' ⟨⟨?pg, ?hd, ?po, ?sa⟩, ?n0, ?n1, ?n2, ?n3, ?n4, ?n5⟩; (case pg => k_is); (case hd => k_is); (case po => k_is); (case sa => k_is); (case n0 => (unfold L2.NoAttr; k_is)); (case n1 => (unfold L2.NoAttr; k_is)); (case n2 => (unfold L2.NoAttr; k_is)); (case n3 => (unfold L2.NoAttr; k_is)); (case n4 => (unfold L2.NoAttr; k_is)); (case n5 => (unfold L2.NoAttr; k_is))))
    (case TN => (refine' ⟨⟨?pg, ?hd, ?po, ?sa⟩, ?n0, ?n1⟩; (case pg => k_is); (case hd => k_is); (case po => k_is); (case sa => k_is); (case n0 => (unfold L2.NoAttr; k_is)); (case n1 => (unfold L2.NoAttr; k_is))))
    (case TS => (refine' ⟨⟨?pg, ?hd, ?po, ?sa⟩, ?n0, ?n1, ?n2⟩; (case pg => k_is); (case hd => k_is); (case po => k_is); (case sa => k_is); (case n0 => (unfold L2.NoAttr; k_is)); (case n1 => (unfold L2.NoAttr; k_is)); (case n2 => (unfold L2.NoAttr; k_is))))
    (case B => (refine' ⟨PySem.W.mg_none_of KX G ?n0, PySem.W.mg_none_of KX G ?n1, PySem.W.mg_none_of KX G ?n2, PySem.W.mg_none_of KX G ?n3, PySem.W.mg_none_of KX G ?n4, PySem.W.mg_none_of KX G ?n5⟩; (case n0 => k_is); (case n1 => k_is); (case n2 => k_is); (case n3 => k_is); (case n4 => k_is); (case n5 => k_is)))
    (case T => (refine' ⟨NB.int_mk KX G ?n0, NB.int_mk KX G ?n1, NB.int_mk KX G ?n2, NB.int_mk KX G ?n3, NB.int_mk KX G ?n4, NB.int_mk KX G ?n5, NB.int_mk KX G ?n6, NB.int_mk KX G ?n7, NB.int_mk KX G ?n8, NB.int_mk KX G ?n9, NB.int_mk KX G ?n10, NB.int_mk KX G ?n11, NB.int_mk KX G ?n12, NB.int_mk KX G ?n13, NB.int_mk KX G ?n14, NB.int_mk KX G ?n15, NB.int_mk KX G ?n16, NB.int_mk KX G ?n17, NB.int_mk KX G ?n18, NB.int_mk KX G ?n19, NB.int_mk KX G ?n20, NB.int_mk KX G ?n21, NB.int_mk KX G ?n22, NB.int_mk KX G ?n23, NB.int_mk KX G ?n24, NB.int_mk KX G ?n25⟩; (case n0 => k_is); (case n1 => k_is); (case n2 => k_is); (case n3 => k_is); (case n4 => k_is); (case n5 => k_is); (case n6 => k_is); (case n7 => k_is); (case n8 => k_is); (case n9 => k_is); (case n10 => k_is); (case n11 => k_is); (case n12 => k_is); (case n13 => k_is); (case n14 => k_is); (case n15 => k_is); (case n16 => k_is); (case n17 => k_is); (case n18 => k_is); (case n19 => k_is); (case n20 => k_is); (case n21 => k_is); (case n22 => k_is); (case n23 => k_is); (case n24 => k_is); (case n25 => k_is)))
  case S =>
    intro K H xs a hO hwi hask hx
    cases hx with
    | cons h1 h2 =>
      cases h2
      cases h1 with
      | lst hs ha =>
        have e := L2.ints_dw a.1 _ ha
        subst e
        have q : ((Codec.inLen 0 30000 a.1 && a.1.all (Codec.inInt 0 4294967295)) && true) = true := hwi
        rw [Bool.and_eq_true, Bool.and_eq_true] at q
        have hq : ∀ z ∈ a.1, 0 ≤ z := fun z hz => (Codec.inInt_iff.mp (List.all_eq_true.mp q.1.2 z hz)).1
        have en : NM.asInts (a.1.map Int.toNat) = a.1 := NB.ints_nats hq
        have ev : NB.vN (a.1.map Int.toNat) = a.1.map L2.V.int := by rw [NB.vN_ints]; exact congrArg (List.map L2.V.int) en
        refine ⟨_, a.1.map Int.toNat, rfl, by rw [ev]; exact hs, by rw [List.length_map]; exact (Codec.inNat_iff.mp q.1.1).2, by rw [en]; exact hask, fun H' p hp => ?_⟩
        rw [en] at hp
        exact .lst (L2.SqL.of hp) (L2.dw_ints _)
#print axioms PySem.Challenge.cw_netshares_s01_answers_holds
