import PyProof.Rows.All
import Wide.All
import OpenK.AllK
import Wide.FinOn
import PyProof.EqAt
import PyProof.EqKinds
import PyProof.TupleCall
import KE.BitLaws
import Open.SpecLaws
import KE.OsHead
import KE.OsGo
import PyFlatLaws
import PySv04
import PySem.Challenge.RW_ballotrows_s01_answers
section
set_option Elab.async false
/-! The mathematics of ballotrows: the flat list of calls read call by call, rows, counts. Core Lean alone. -/
namespace Br
open Sv04

/-! ### the flat list, call by call -/
abbrev Cl := List (List Int)
theorem whole_id (c : Cl) : PySv04.whole c = c := by
  have e : @PySv04.whole.match_1.{1} = @Sv04Neutral.callOf.match_1.{1} := rfl
  unfold PySv04.whole
  rw [e]
  split <;> rfl
/-- the state behind some calls -/
def after : Sv04Neutral.S → List Cl → Sv04Neutral.S
  | s, [] => s
  | s, c :: r => after (Sv04Neutral.step s c).1 r
/-- what has been told behind some calls -/
def toldOf (cs : List Cl) : List Int := PyFlat.told (PyFlat.played Sv04Neutral.step Sv04Neutral.start cs)
theorem after_append : ∀ (a b : List Cl) (s : Sv04Neutral.S), after s (a ++ b) = after (after s a) b
  | [], _, _ => rfl
  | c :: a, b, s => after_append a b (Sv04Neutral.step s c).1
theorem played_append : ∀ (a b : List Cl) (s : Sv04Neutral.S), PyFlat.played Sv04Neutral.step s (a ++ b) = PyFlat.played Sv04Neutral.step s a ++ PyFlat.played Sv04Neutral.step (after s a) b
  | [], _, _ => rfl
  | c :: a, b, s => congrArg (List.cons (Sv04Neutral.step s c).2) (played_append a b (Sv04Neutral.step s c).1)
theorem told_append (a b : List (List Int)) : PyFlat.told (a ++ b) = PyFlat.told a ++ PyFlat.told b := by
  unfold PyFlat.told
  exact List.flatMap_append
theorem toldOf_snoc (cs : List Cl) (c : Cl) : toldOf (cs ++ [c]) = toldOf cs ++ (((Sv04Neutral.step (after Sv04Neutral.start cs) c).2.length : Int) :: (Sv04Neutral.step (after Sv04Neutral.start cs) c).2) := by
  unfold toldOf
  rw [played_append, told_append]
  refine congrArg _ ?_
  show (_ :: _) ++ [] = _
  exact List.append_nil _
theorem after_snoc (cs : List Cl) (c : Cl) (s : Sv04Neutral.S) : after s (cs ++ [c]) = (Sv04Neutral.step (after s cs) c).1 := by
  rw [after_append]
  rfl
theorem put_append : ∀ (a b : List Cl), PyFlat.put (a ++ b) = PyFlat.put a ++ PyFlat.put b
  | [], _ => rfl
  | c :: a, b => by
    show PyFlat.put1 c ++ PyFlat.put (a ++ b) = (PyFlat.put1 c ++ PyFlat.put a) ++ PyFlat.put b
    rw [put_append a b, List.append_assoc]
/-- what is asked of a request, by its calls -/
theorem asked_calls {l : List Int} (h : PySv04.answers_asked l = true) :
    ∃ cs : List Cl, l = PyFlat.put cs ∧ cs.length ≤ 60 ∧ (∀ c ∈ cs, Sv04Neutral.asked1 c = true) ∧ PySv04.answers l = toldOf cs := by
  unfold PySv04.answers_asked at h
  unfold PySv04.answers
  unfold PySv04.calls at h ⊢
  cases e : PyFlat.calls PySv04.shape l.length l with
  | none =>
    rw [e] at h
    cases h
  | some cs =>
    rw [e] at h
    have em : cs.map PySv04.whole = cs := by
      rw [List.map_congr_left (fun c _ => whole_id c)]
      exact List.map_id _
    have h2 : (PyFlat.atMost 60 (cs.map PySv04.whole) && Sv04Neutral.asked (cs.map PySv04.whole)) = true := h
    rw [em, Bool.and_eq_true] at h2
    obtain ⟨h3, h4⟩ := h2
    unfold Sv04Neutral.asked at h4
    rw [Bool.and_eq_true, Bool.and_eq_true] at h4
    refine ⟨cs, (PyFlat.put_calls _ _ _ e).1, of_decide_eq_true h3, fun c hc => List.all_eq_true.mp h4.2.2 c hc, ?_⟩
    show PyFlat.told (PyFlat.played Sv04Neutral.step Sv04Neutral.start (cs.map PySv04.whole)) = toldOf cs
    rw [em]
    rfl

/-! ### eight bits as a byte -/
/-- one lane more -/
theorem maskOf_succ (n : Nat) (f : Nat → Bool) : maskOf (n + 1) f = maskOf n f + (f n).toNat * 2 ^ n := by
  unfold maskOf
  rw [List.range_succ, List.filter_append, List.foldl_append]
  by_cases h : f n = true
  · rw [List.filter_cons, if_pos h, h]
    show _ + 2 ^ n = _ + 1 * 2 ^ n
    rw [Nat.one_mul]
  · rw [List.filter_cons, if_neg h]
    have e : f n = false := by
      cases e : f n with
      | false => rfl
      | true => exact absurd e h
    rw [e]
    show _ = _ + 0 * 2 ^ n
    rw [Nat.zero_mul]
    rfl
theorem maskOf_zero (f : Nat → Bool) : maskOf 0 f = 0 := rfl
theorem pack_eq (f : Nat → Bool) : pack f = (f 0).toNat + 2 * (f 1).toNat + 4 * (f 2).toNat + 8 * (f 3).toNat + 16 * (f 4).toNat + 32 * (f 5).toNat + 64 * (f 6).toNat + 128 * (f 7).toNat := by
  have e : pack f = maskOf 8 f := rfl
  rw [e, maskOf_succ, maskOf_succ, maskOf_succ, maskOf_succ, maskOf_succ, maskOf_succ, maskOf_succ, maskOf_succ, maskOf_zero]
  generalize (f 0).toNat = b0
  generalize (f 1).toNat = b1
  generalize (f 2).toNat = b2
  generalize (f 3).toNat = b3
  generalize (f 4).toNat = b4
  generalize (f 5).toNat = b5
  generalize (f 6).toNat = b6
  generalize (f 7).toNat = b7
  omega
theorem toNat_le (b : Bool) : b.toNat ≤ 1 := by cases b <;> decide
theorem pack_lt (f : Nat → Bool) : pack f < 256 := by
  rw [pack_eq]
  have h0 := toNat_le (f 0)
  have h1 := toNat_le (f 1)
  have h2 := toNat_le (f 2)
  have h3 := toNat_le (f 3)
  have h4 := toNat_le (f 4)
  have h5 := toNat_le (f 5)
  have h6 := toNat_le (f 6)
  have h7 := toNat_le (f 7)
  omega
theorem u8_toNat {n : Nat} (h : n < 256) : (UInt8.ofNat n).toNat = n := by
  rw [UInt8.toNat_ofNat']
  exact Nat.mod_eq_of_lt h
/-- the numbers that a row answers -/
def shown (v : Vec) : List Int := (List.range 64).map fun i => ((byte v i : Nat) : Int)
theorem byte_map {f : Nat → UInt8} {j : Nat} (h : j < 64) : byte ((List.range 64).map f) j = (f j).toNat := by
  unfold byte
  rw [List.getD_eq_getElem?_getD, List.getElem?_map, List.getElem?_range h]
  rfl
theorem byte_ofBits {f : Nat → Bool} {j : Nat} (h : j < 64) : byte (ofBits f) j = pack fun i => f (8 * j + i) := by
  unfold ofBits
  rw [byte_map h, u8_toNat (pack_lt _)]
theorem byte_ofBytes {f : Nat → Nat} {j : Nat} (h : j < 64) : byte (ofBytes f) j = f j % 256 := by
  unfold ofBytes
  rw [byte_map h, u8_toNat (Nat.mod_lt _ (by decide))]
theorem shown_ofBits (f : Nat → Bool) : shown (ofBits f) = (List.range 64).map fun j => ((pack fun i => f (8 * j + i) : Nat) : Int) := by
  unfold shown
  refine List.map_congr_left fun j hj => ?_
  rw [byte_ofBits (List.mem_range.mp hj)]
theorem shown_ofBytes (f : Nat → Nat) : shown (ofBytes f) = (List.range 64).map fun j => ((f j % 256 : Nat) : Int) := by
  unfold shown
  refine List.map_congr_left fun j hj => ?_
  rw [byte_ofBytes (List.mem_range.mp hj)]
theorem shown_ofLanes (w : Nat) (f : Nat → Nat) : shown (ofLanes w f) = (List.range 64).map fun j => ((f (j / w) / 256 ^ (j % w) % 256 : Nat) : Int) := shown_ofBytes _
/-! ### a row that is handed in: its bytes, and the zeros behind them -/
def IsRow (b : List Int) : Prop := b.length ≤ 64 ∧ ∀ z ∈ b, 0 ≤ z ∧ z < 256
theorem isRow_of {b : List Int} (h : Sv04Neutral.bytes b = true) : IsRow b := by
  unfold Sv04Neutral.bytes at h
  rw [Bool.and_eq_true] at h
  refine ⟨of_decide_eq_true h.1, fun z hz => ?_⟩
  have h2 := List.all_eq_true.mp h.2 z hz
  rw [Bool.and_eq_true] at h2
  exact ⟨of_decide_eq_true h2.1, of_decide_eq_true h2.2⟩
/-- the whole row, as the program pads it -/
def padded (b : List Int) : List Int := b ++ List.replicate (64 - b.length) 0
theorem padded_len {b : List Int} (h : IsRow b) : (padded b).length = 64 := by
  unfold padded
  rw [List.length_append, List.length_replicate]
  have := h.1
  omega
theorem byte_row {b : List Int} (h : IsRow b) (i : Nat) : ((byte (Sv04Neutral.row b) i : Nat) : Int) = b.getD i 0 := by
  unfold byte Sv04Neutral.row
  rw [List.getD_eq_getElem?_getD, List.getD_eq_getElem?_getD, List.getElem?_map]
  cases e : b[i]? with
  | none => rfl
  | some z =>
    have hz := h.2 z (List.mem_of_getElem? e)
    show (((UInt8.ofNat z.toNat).toNat : Nat) : Int) = z
    rw [u8_toNat (by omega)]
    omega
theorem padded_at {b : List Int} (h : IsRow b) {i : Nat} (hi : i < 64) : (padded b)[i]? = some ((byte (Sv04Neutral.row b) i : Nat) : Int) := by
  rw [byte_row h]
  unfold padded
  rw [List.getD_eq_getElem?_getD]
  by_cases k : i < b.length
  · rw [List.getElem?_append_left k, List.getElem?_eq_getElem k]
    rfl
  · rw [List.getElem?_append_right (by omega), List.getElem?_replicate, if_pos (by omega), List.getElem?_eq_none (by omega)]
    rfl
theorem byte_lt (v : Vec) (i : Nat) : byte v i < 256 := by
  unfold byte
  exact UInt8.toNat_lt _
theorem padded_eq {b : List Int} (h : IsRow b) : padded b = shown (Sv04Neutral.row b) := by
  refine List.ext_getElem? fun i => ?_
  by_cases hi : i < 64
  · rw [padded_at h hi]
    unfold shown
    rw [List.getElem?_map, List.getElem?_range hi]
    rfl
  · rw [List.getElem?_eq_none (by rw [padded_len h]; omega), List.getElem?_eq_none (by unfold shown; rw [List.length_map, List.length_range]; omega)]
end Br

end
section
set_option Elab.async false
namespace Br
open Sv04

/-! ### bits -/
theorem bit_nat (n p : Nat) : n / 2 ^ p % 2 = (n.testBit p).toNat := by
  rw [Nat.toNat_testBit]
theorem bit_int (n p : Nat) : ((n : Int) / 2 ^ p) % 2 = (((n.testBit p).toNat : Nat) : Int) := by
  rw [← bit_nat]
  push_cast
  rfl
theorem pack_congr {f g : Nat → Bool} (h : ∀ i, i < 8 → f i = g i) : pack f = pack g := by
  rw [pack_eq, pack_eq, h 0 (by decide), h 1 (by decide), h 2 (by decide), h 3 (by decide), h 4 (by decide), h 5 (by decide), h 6 (by decide), h 7 (by decide)]
theorem pack_none : pack (fun _ => false) = 0 := by decide
/-- one bit more -/
theorem pack_upto (f : Nat → Bool) {r : Nat} (h : r < 8) : pack (fun i => decide (i < r + 1) && f i) = pack (fun i => decide (i < r) && f i) + (f r).toNat * 2 ^ r := by
  rw [pack_eq, pack_eq]
  match r, h with
  | 0, _ => simp
  | 1, _ => simp; omega
  | 2, _ => simp; omega
  | 3, _ => simp; omega
  | 4, _ => simp; omega
  | 5, _ => simp; omega
  | 6, _ => simp; omega
  | 7, _ => simp; omega
  | r + 8, h => omega
/-! ### a row by its bits, the first n of them -/
def rowUpto (f : Nat → Bool) (n : Nat) : List Int := (List.range 64).map fun j => ((pack fun i => decide (8 * j + i < n) && f (8 * j + i) : Nat) : Int)
theorem rowUpto_at (f : Nat → Bool) (n : Nat) {j : Nat} (h : j < 64) : (rowUpto f n)[j]? = some ((pack fun i => decide (8 * j + i < n) && f (8 * j + i) : Nat) : Int) := by
  unfold rowUpto
  rw [List.getElem?_map, List.getElem?_range h]
  rfl
theorem rowUpto_len (f : Nat → Bool) (n : Nat) : (rowUpto f n).length = 64 := by
  unfold rowUpto
  rw [List.length_map, List.length_range]
theorem rowUpto_zero (f : Nat → Bool) : rowUpto f 0 = List.replicate 64 0 := by
  refine List.ext_getElem? fun j => ?_
  by_cases h : j < 64
  · rw [rowUpto_at f 0 h, List.getElem?_replicate, if_pos h]
    have e : (pack fun i => decide (8 * j + i < 0) && f (8 * j + i)) = pack fun _ => false := pack_congr fun i _ => by simp
    rw [e, pack_none]
    rfl
  · rw [List.getElem?_eq_none (by rw [rowUpto_len]; omega), List.getElem?_eq_none (by rw [List.length_replicate]; omega)]
theorem rowUpto_succ (f : Nat → Bool) {n : Nat} {v : Int} (hv : (rowUpto f n)[n / 8]? = some v) :
    rowUpto f (n + 1) = (rowUpto f n).set (n / 8) (v + (((f n).toNat : Nat) : Int) * 2 ^ (n % 8)) := by
  refine List.ext_getElem? fun j => ?_
  by_cases hj : j < 64
  · rw [rowUpto_at f (n + 1) hj]
    by_cases e : j = n / 8
    · subst e
      rw [List.getElem?_set_self (by rw [rowUpto_len]; exact hj)]
      rw [rowUpto_at f n hj] at hv
      have hv' := Option.some.inj hv
      rw [← hv']
      have e1 : (pack fun i => decide (8 * (n / 8) + i < n + 1) && f (8 * (n / 8) + i)) = pack fun i => decide (i < n % 8 + 1) && f (8 * (n / 8) + i) := pack_congr fun i _ => by
        congr 1
        exact decide_eq_decide.mpr (by omega)
      have e2 : (pack fun i => decide (8 * (n / 8) + i < n) && f (8 * (n / 8) + i)) = pack fun i => decide (i < n % 8) && f (8 * (n / 8) + i) := pack_congr fun i _ => by
        congr 1
        exact decide_eq_decide.mpr (by omega)
      have e3 : 8 * (n / 8) + n % 8 = n := by omega
      rw [e1, e2, pack_upto (fun i => f (8 * (n / 8) + i)) (Nat.mod_lt n (by decide))]
      simp only [e3]
      push_cast
      rfl
    · rw [List.getElem?_set_ne (fun q => e q.symm), rowUpto_at f n hj]
      have e1 : (pack fun i => decide (8 * j + i < n + 1) && f (8 * j + i)) = pack fun i => decide (8 * j + i < n) && f (8 * j + i) := pack_congr fun i hi => by
        congr 1
        exact decide_eq_decide.mpr (by omega)
      rw [e1]
  · rw [List.getElem?_eq_none (by rw [rowUpto_len]; omega), List.getElem?_eq_none (by rw [List.length_set, rowUpto_len]; omega)]
theorem rowUpto_all (f : Nat → Bool) : rowUpto f 512 = shown (ofBits f) := by
  rw [shown_ofBits]
  unfold rowUpto
  refine List.map_congr_left fun j hj => ?_
  have hj' := List.mem_range.mp hj
  have e1 : (pack fun i => decide (8 * j + i < 512) && f (8 * j + i)) = pack fun i => f (8 * j + i) := pack_congr fun i hi => by
    rw [decide_eq_true (by omega : 8 * j + i < 512), Bool.true_and]
  rw [e1]

/-! ### the questions that a ballot asks for -/
def marked (b : Vec) (k : Nat) : List Nat := (List.range 512).filter fun q => asks b k q
theorem marked_mem {b : Vec} {k q : Nat} : q ∈ marked b k ↔ q < 512 ∧ asks b k q = true := by
  unfold marked
  rw [List.mem_filter, List.mem_range]
theorem marked_nodup (b : Vec) (k : Nat) : (marked b k).Nodup := List.Pairwise.filter _ List.nodup_range
theorem marked_len (b : Vec) (k : Nat) : (marked b k).length ≤ 512 := by
  have := List.length_filter_le (fun q => asks b k q) (List.range 512)
  rw [List.length_range] at this
  exact this
/-- the part of them below n -/
def markedTo (b : Vec) (k n : Nat) : List Nat := (List.range n).filter fun q => asks b k q
theorem markedTo_succ (b : Vec) (k n : Nat) : markedTo b k (n + 1) = if asks b k n = true then markedTo b k n ++ [n] else markedTo b k n := by
  unfold markedTo
  rw [List.range_succ, List.filter_append]
  by_cases h : asks b k n = true
  · rw [if_pos h, List.filter_cons, if_pos h, List.filter_nil]
  · rw [if_neg h, List.filter_cons, if_neg h, List.filter_nil, List.append_nil]
theorem markedTo_len (b : Vec) (k n : Nat) : (markedTo b k n).length ≤ n := by
  have := List.length_filter_le (fun q => asks b k q) (List.range n)
  rw [List.length_range] at this
  exact this
/-! ### counts -/
/-- the counts as Python's ints -/
def cnts (t : Tally) : List Int := t.map fun (n : Nat) => (n : Int)
theorem cnts_len (t : Tally) : (cnts t).length = t.length := by
  unfold cnts
  rw [List.length_map]
theorem cnts_at {t : Tally} {q : Nat} (h : q < t.length) : (cnts t)[q]? = some ((countOf t q : Nat) : Int) := by
  unfold cnts countOf
  rw [List.getElem?_map, List.getD_eq_getElem?_getD, List.getElem?_eq_getElem h]
  rfl
theorem cnts_fresh : cnts fresh = List.replicate 512 0 := by
  unfold cnts fresh
  rw [List.map_replicate]
  rfl
/-- each count of these questions one step on -/
def bump (c : List Int) (qs : List Nat) (s : Int) : List Int := c.zipIdx.map fun (x : Int × Nat) => if x.2 ∈ qs then x.1 + s else x.1
theorem bump_len (c : List Int) (qs : List Nat) (s : Int) : (bump c qs s).length = c.length := by
  unfold bump
  rw [List.length_map, List.length_zipIdx]
theorem bump_at (c : List Int) (qs : List Nat) (s : Int) (i : Nat) : (bump c qs s)[i]? = c[i]?.map fun x => if i ∈ qs then x + s else x := by
  unfold bump
  rw [List.getElem?_map, List.getElem?_zipIdx]
  cases c[i]? with
  | none => rfl
  | some x =>
    show some (if 0 + i ∈ qs then x + s else x) = _
    rw [Nat.zero_add]
    rfl
theorem bump_nil (c : List Int) (s : Int) : bump c [] s = c := by
  refine List.ext_getElem? fun i => ?_
  rw [bump_at]
  cases c[i]? with
  | none => rfl
  | some x => simp
theorem bump_snoc {c : List Int} {qs : List Nat} {q : Nat} (s : Int) (hq : q ∉ qs) {v : Int} (hv : (bump c qs s)[q]? = some v) : bump c (qs ++ [q]) s = (bump c qs s).set q (v + s) := by
  have hl : q < c.length := by
    have := (List.getElem?_eq_some_iff.mp hv).1
    rw [bump_len] at this
    exact this
  refine List.ext_getElem? fun i => ?_
  by_cases e : i = q
  · subst e
    rw [List.getElem?_set_self (by rw [bump_len]; exact hl), bump_at, List.getElem?_eq_getElem hl]
    rw [bump_at, List.getElem?_eq_getElem hl] at hv
    have hv' : (if i ∈ qs then c[i] + s else c[i]) = v := Option.some.inj hv
    rw [if_neg hq] at hv'
    rw [← hv']
    show some (if i ∈ qs ++ [i] then c[i] + s else c[i]) = _
    rw [if_pos (List.mem_append_right _ (List.mem_singleton.mpr rfl))]
  · rw [List.getElem?_set_ne (fun z => e z.symm), bump_at, bump_at]
    have e2 : (i ∈ qs ++ [q]) ↔ i ∈ qs := by
      rw [List.mem_append, List.mem_singleton]
      exact ⟨fun z => z.elim id fun z => absurd z e, .inl⟩
    simp only [e2]
theorem changed_at (t : Tally) (b : Vec) (k : Nat) (f : Nat → Nat) (i : Nat) : (changed t b k f)[i]? = t[i]?.map fun x => if asks b k i = true then f x else x := by
  unfold changed
  rw [List.getElem?_map, List.getElem?_zipIdx]
  cases t[i]? with
  | none => rfl
  | some x =>
    show some (if asks b k (0 + i) = true then f x else x) = _
    rw [Nat.zero_add]
    rfl
theorem changed_len (t : Tally) (b : Vec) (k : Nat) (f : Nat → Nat) : (changed t b k f).length = t.length := by
  unfold changed
  rw [List.length_map, List.length_zipIdx]
theorem bump_changed {t : Tally} (hl : t.length = 512) (b : Vec) (k : Nat) (f : Nat → Nat) (s : Int) (hf : ∀ q, q ∈ marked b k → ((f (countOf t q) : Nat) : Int) = ((countOf t q : Nat) : Int) + s) :
    bump (cnts t) (marked b k) s = cnts (changed t b k f) := by
  refine List.ext_getElem? fun i => ?_
  rw [bump_at]
  by_cases h : i < 512
  · have hlt : i < t.length := by rw [hl]; exact h
    rw [cnts_at hlt, cnts_at (by rw [changed_len]; exact hlt)]
    show some (if i ∈ marked b k then ((countOf t i : Nat) : Int) + s else ((countOf t i : Nat) : Int)) = _
    have e : countOf (changed t b k f) i = if asks b k i = true then f (countOf t i) else countOf t i := by
      unfold countOf
      rw [List.getD_eq_getElem?_getD, changed_at, List.getD_eq_getElem?_getD, List.getElem?_eq_getElem hlt]
      rfl
    rw [e]
    by_cases ha : asks b k i = true
    · have hm := marked_mem.mpr ⟨h, ha⟩
      rw [if_pos hm, if_pos ha, hf i hm]
    · rw [if_neg (fun z => ha (marked_mem.mp z).2), if_neg ha]
  · rw [List.getElem?_eq_none (by rw [cnts_len, hl]; omega), List.getElem?_eq_none (by rw [cnts_len, changed_len, hl]; omega)]
    rfl
theorem stands_iff {t : Tally} (hl : t.length = 512) (b : Vec) (k n : Nat) : stands t b k n = true ↔ ∃ q ∈ marked b k, countOf t q = n := by
  unfold stands
  rw [List.any_eq_true]
  constructor
  · rintro ⟨⟨x, i⟩, hm, h⟩
    rw [Bool.and_eq_true] at h
    obtain ⟨h1, h2⟩ := h
    have hx := List.mem_zipIdx_iff_getElem?.mp hm
    have hi : i < t.length := (List.getElem?_eq_some_iff.mp hx).1
    refine ⟨i, marked_mem.mpr ⟨by omega, h1⟩, ?_⟩
    unfold countOf
    rw [List.getD_eq_getElem?_getD]
    have hx2 : t[i]? = some x := hx
    rw [hx2]
    exact eq_of_beq h2
  · rintro ⟨q, hq, e⟩
    obtain ⟨h1, h2⟩ := marked_mem.mp hq
    have hlt : q < t.length := by omega
    refine ⟨(t[q], q), List.mem_zipIdx_iff_getElem?.mpr (List.getElem?_eq_getElem hlt), ?_⟩
    rw [Bool.and_eq_true]
    refine ⟨h2, ?_⟩
    unfold countOf at e
    rw [List.getD_eq_getElem?_getD, List.getElem?_eq_getElem hlt] at e
    exact beq_iff_eq.mpr e
theorem fresh_len : fresh.length = 512 := by
  unfold fresh
  rw [List.length_replicate]
  rfl
theorem does_len {t : Tally} (h : t.length = 512) (c : Call) : (does t c).1.length = 512 := by
  cases c with
  | begin_ => exact fresh_len
  | count b k =>
    show (if stands t b k MOST = true then (t, Ans.number 2) else (changed t b k (· + 1), Ans.number 0)).1.length = 512
    split
    · exact h
    · exact (changed_len t b k (· + 1)).trans h
  | uncount b k =>
    show (if stands t b k 0 = true then (t, Ans.number 2) else (changed t b k (· - 1), Ans.number 0)).1.length = 512
    split
    · exact h
    · exact (changed_len t b k (· - 1)).trans h
  | _ => exact h
end Br

end
section
set_option Elab.async false
namespace Br
open Sv04
def IsInt (z : Int) : Prop := -2147483648 ≤ z ∧ z ≤ 2147483647
def IsWord (z : Int) : Prop := 0 ≤ z ∧ z < 18446744073709551616
theorem isInt_of {z : Int} (h : Sv04Neutral.int z = true) : IsInt z := by
  unfold Sv04Neutral.int at h
  rw [Bool.and_eq_true] at h
  have h1 : -(2 ^ 31 : Int) ≤ z := of_decide_eq_true h.1
  have h2 : z < (2 ^ 31 : Int) := of_decide_eq_true h.2
  constructor
  · omega
  · omega
theorem isWord_of {z : Int} (h : Sv04Neutral.word z = true) : IsWord z := by
  unfold Sv04Neutral.word at h
  rw [Bool.and_eq_true] at h
  have h1 : (0 : Int) ≤ z := of_decide_eq_true h.1
  have h2 : z < (2 ^ 64 : Int) := of_decide_eq_true h.2
  constructor
  · omega
  · omega
/-- a call that is asked for, by its form -/
inductive Ok : Cl → Prop
  | begin_ : Ok [[0]]
  | count {k : Int} {b : List Int} (hk : IsWord k) (hb : IsRow b) : Ok [[1, k], b]
  | uncount {k : Int} {b : List Int} (hk : IsWord k) (hb : IsRow b) : Ok [[2, k], b]
  | least {t : Int} (ht : IsInt t) : Ok [[3, t]]
  | between {lo hi : Int} (h1 : IsInt lo) (h2 : IsInt hi) : Ok [[4, lo, hi]]
  | odd : Ok [[5]]
  | one {q : Int} (hq : IsInt q) : Ok [[6, q]]
  | choose {how : Int} {a b c : List Int} (hh : IsInt how) (ha : IsRow a) (hb : IsRow b) (hc : IsRow c) : Ok [[7, how], a, b, c]
  | pick {k w : Int} {p a b : List Int} (hk : IsWord k) (hw : IsInt w) (hp : IsRow p) (ha : IsRow a) (hb : IsRow b) : Ok [[8, k, w], p, a, b]
  | fields {k : Int} {x s : List Int} (hk : IsWord k) (hx : IsRow x) (hs : IsRow s) : Ok [[9, k], x, s]
  | dots {k h : Int} {s a b : List Int} (hk : IsWord k) (hh : IsInt h) (hs : IsRow s) (ha : IsRow a) (hb : IsRow b) : Ok [[10, k, h], s, a, b]
  | tests {w n : Int} {a b : List Int} (hw : IsInt w) (hn : IsInt n) (ha : IsRow a) (hb : IsRow b) : Ok [[11, w, n], a, b]
  | join {a b n : Int} (ha : IsWord a) (hb : IsWord b) (hn : IsInt n) : Ok [[12, a, b, n]]
theorem ok_of {c : Cl} (h : Sv04Neutral.asked1 c = true) : Ok c := by
  unfold Sv04Neutral.asked1 at h
  split at h
  · exact .begin_
  · rw [Bool.and_eq_true] at h
    exact .count (isWord_of h.1) (isRow_of h.2)
  · rw [Bool.and_eq_true] at h
    exact .uncount (isWord_of h.1) (isRow_of h.2)
  · exact .least (isInt_of h)
  · rw [Bool.and_eq_true] at h
    exact .between (isInt_of h.1) (isInt_of h.2)
  · exact .odd
  · exact .one (isInt_of h)
  · rw [Bool.and_eq_true, Bool.and_eq_true, Bool.and_eq_true] at h
    exact .choose (isInt_of h.1) (isRow_of h.2.1) (isRow_of h.2.2.1) (isRow_of h.2.2.2)
  · rw [Bool.and_eq_true, Bool.and_eq_true, Bool.and_eq_true, Bool.and_eq_true] at h
    exact .pick (isWord_of h.1) (isInt_of h.2.1) (isRow_of h.2.2.1) (isRow_of h.2.2.2.1) (isRow_of h.2.2.2.2)
  · rw [Bool.and_eq_true, Bool.and_eq_true] at h
    exact .fields (isWord_of h.1) (isRow_of h.2.1) (isRow_of h.2.2)
  · rw [Bool.and_eq_true, Bool.and_eq_true, Bool.and_eq_true, Bool.and_eq_true] at h
    exact .dots (isWord_of h.1) (isInt_of h.2.1) (isRow_of h.2.2.1) (isRow_of h.2.2.2.1) (isRow_of h.2.2.2.2)
  · rw [Bool.and_eq_true, Bool.and_eq_true, Bool.and_eq_true] at h
    exact .tests (isInt_of h.1) (isInt_of h.2.1) (isRow_of h.2.2.1) (isRow_of h.2.2.2)
  · rw [Bool.and_eq_true, Bool.and_eq_true] at h
    exact .join (isWord_of h.1) (isWord_of h.2.1) (isInt_of h.2.2)
  · cases h
/-! ### what each call is due, in the program's terms -/
open Sv04Neutral (step row)
def told1 : Ans → List Int
  | .number n => [n]
  | .vector v => shown v
theorem step_some {s : Sv04Neutral.S} {c : Cl} {q : Call} (h : Sv04Neutral.callOf c = some q) : step s c = ((does s q).1, told1 (does s q).2) := by
  unfold step
  rw [h]
  show ((does s q).1, _) = _
  refine congrArg (Prod.mk _) ?_
  cases (does s q).2 with
  | number n => rfl
  | vector v => rfl
theorem call_begin : Sv04Neutral.callOf [[0]] = some .begin_ := rfl
theorem call_count {k : Int} {b : List Int} : Sv04Neutral.callOf [[1, k], b] = some (.count (row b) k.toNat) := rfl
theorem call_uncount {k : Int} {b : List Int} : Sv04Neutral.callOf [[2, k], b] = some (.uncount (row b) k.toNat) := rfl
theorem call_least {t : Int} : Sv04Neutral.callOf [[3, t]] = some (.least t) := rfl
theorem call_between {lo hi : Int} : Sv04Neutral.callOf [[4, lo, hi]] = some (.between lo hi) := rfl
theorem call_odd : Sv04Neutral.callOf [[5]] = some .odd := rfl
theorem call_one {q : Int} : Sv04Neutral.callOf [[6, q]] = some (.one q) := rfl
theorem call_choose {how : Int} {a b c : List Int} : Sv04Neutral.callOf [[7, how], a, b, c] = some (.choose (row a) (row b) (row c) how) := rfl
theorem call_pick {k w : Int} {p a b : List Int} : Sv04Neutral.callOf [[8, k, w], p, a, b] = some (.pick (row p) (row a) (row b) k.toNat w) := rfl
theorem call_fields {k : Int} {x s : List Int} : Sv04Neutral.callOf [[9, k], x, s] = some (.fields (row x) (row s) k.toNat) := rfl
theorem call_dots {k h : Int} {s a b : List Int} : Sv04Neutral.callOf [[10, k, h], s, a, b] = some (.dots (row s) (row a) (row b) k.toNat h) := rfl
theorem call_tests {w n : Int} {a b : List Int} : Sv04Neutral.callOf [[11, w, n], a, b] = some (.tests (row a) (row b) w n) := rfl
theorem call_join {a b n : Int} : Sv04Neutral.callOf [[12, a, b, n]] = some (.join a.toNat b.toNat n) := rfl
/-- every call has just one reading -/
theorem ok_call {c : Cl} (h : Ok c) : ∃ q, Sv04Neutral.callOf c = some q := by
  cases h with
  | begin_ => exact ⟨_, rfl⟩
  | odd => exact ⟨_, rfl⟩
  | _ => exact ⟨_, rfl⟩
theorem step_len {s : Sv04Neutral.S} (hs : s.length = 512) {c : Cl} (h : Ok c) : (step s c).1.length = 512 := by
  obtain ⟨q, e⟩ := ok_call h
  rw [step_some e]
  exact does_len hs q
theorem after_len : ∀ (cs : List Cl) (s : Sv04Neutral.S), s.length = 512 → (∀ c ∈ cs, Ok c) → (after s cs).length = 512
  | [], _, h, _ => h
  | c :: cs, s, h, k => after_len cs (step s c).1 (step_len h (k c (List.Mem.head _))) fun d hd => k d (List.Mem.tail _ hd)
theorem shown_len (v : Vec) : (shown v).length = 64 := by
  unfold shown
  rw [List.length_map, List.length_range]
/-- an answer has at most 64 numbers -/
theorem step_told_len {s : Sv04Neutral.S} {c : Cl} (h : Ok c) : (step s c).2.length ≤ 64 := by
  obtain ⟨q, e⟩ := ok_call h
  rw [step_some e]
  show (told1 (does s q).2).length ≤ 64
  cases (does s q).2 with
  | number n => exact (by decide : 1 ≤ 64)
  | vector v => exact Nat.le_of_eq (shown_len v)
end Br

end
section
set_option Elab.async false
namespace Br
open Sv04
/-! ### numbers with the lowest byte first -/
def num (l : List Nat) : Nat := l.foldr (fun b n => b + 256 * n) 0
theorem num_cons (x : Nat) (l : List Nat) : num (x :: l) = x + 256 * num l := rfl
theorem num_snoc : ∀ (l : List Nat) (x : Nat), num (l ++ [x]) = num l + x * 256 ^ l.length
  | [], x => by
    show x + 256 * 0 = 0 + x * 1
    omega
  | a :: l, x => by
    show a + 256 * num (l ++ [x]) = (a + 256 * num l) + x * 256 ^ (l.length + 1)
    rw [num_snoc l x, Nat.pow_succ, Nat.mul_add, Nat.add_assoc]
    refine congrArg (a + ·) (congrArg (256 * num l + ·) ?_)
    rw [Nat.mul_comm 256, Nat.mul_assoc]
theorem num_lt : ∀ (l : List Nat), (∀ x ∈ l, x < 256) → num l < 256 ^ l.length
  | [], _ => by decide
  | a :: l, h => by
    have ih := num_lt l fun x hx => h x (List.Mem.tail _ hx)
    have ha := h a (List.Mem.head _)
    show a + 256 * num l < 256 ^ (l.length + 1)
    rw [Nat.pow_succ]
    omega
theorem num_at : ∀ (l : List Nat) (i : Nat), (∀ x ∈ l, x < 256) → num l / 256 ^ i % 256 = l.getD i 0
  | [], i, _ => by
    show 0 / 256 ^ i % 256 = 0
    rw [Nat.zero_div]
  | a :: l, 0, h => by
    have ha := h a (List.Mem.head _)
    show (a + 256 * num l) / 256 ^ 0 % 256 = a
    rw [Nat.pow_zero, Nat.div_one]
    omega
  | a :: l, i + 1, h => by
    have ih := num_at l i fun x hx => h x (List.Mem.tail _ hx)
    have ha := h a (List.Mem.head _)
    show (a + 256 * num l) / 256 ^ (i + 1) % 256 = l.getD i 0
    rw [Nat.pow_succ, Nat.mul_comm (256 ^ i), ← Nat.div_div_eq_div_mul]
    have e : (a + 256 * num l) / 256 = num l := by omega
    rw [e, ih]
/-- a lane's bytes -/
def laneBytes (v : Vec) (w j : Nat) : List Nat := (List.range w).map fun i => byte v (w * j + i)
theorem foldr_map' {α β : Type} (g : α → β) (f : β → Nat → Nat) : ∀ (l : List α) (z : Nat), (l.map g).foldr f z = l.foldr (fun i n => f (g i) n) z
  | [], _ => rfl
  | a :: l, z => by
    show f (g a) ((l.map g).foldr f z) = f (g a) (l.foldr (fun i n => f (g i) n) z)
    rw [foldr_map' g f l z]
theorem lane_num (v : Vec) (w j : Nat) : lane v w j = num (laneBytes v w j) := by
  unfold lane num laneBytes
  rw [foldr_map']
theorem laneBytes_lt (v : Vec) (w j : Nat) : ∀ x ∈ laneBytes v w j, x < 256 := fun x hx => by
  unfold laneBytes at hx
  obtain ⟨i, _, rfl⟩ := List.mem_map.mp hx
  exact byte_lt _ _
theorem laneBytes_len (v : Vec) (w j : Nat) : (laneBytes v w j).length = w := by
  unfold laneBytes
  rw [List.length_map, List.length_range]
theorem lane_lt (v : Vec) (w j : Nat) : lane v w j < 256 ^ w := by
  have h := num_lt _ (laneBytes_lt v w j)
  rw [laneBytes_len, ← lane_num] at h
  exact h
theorem lane_byte (v : Vec) {w i : Nat} (j : Nat) (h : i < w) : lane v w j / 256 ^ i % 256 = byte v (w * j + i) := by
  rw [lane_num, num_at _ _ (laneBytes_lt v w j)]
  unfold laneBytes
  rw [List.getD_eq_getElem?_getD, List.getElem?_map, List.getElem?_range h]
  rfl
/-! ### masks -/
theorem maskOf_lt (n : Nat) (f : Nat → Bool) : maskOf n f < 2 ^ n := by
  induction n with
  | zero => rw [maskOf_zero]; decide
  | succ n ih =>
    rw [maskOf_succ, Nat.pow_succ]
    have h := toNat_le (f n)
    have h2 : (f n).toNat * 2 ^ n ≤ 1 * 2 ^ n := Nat.mul_le_mul_right _ h
    omega
theorem pack_mask (f : Nat → Bool) : pack f = maskOf 8 f := rfl
theorem maskOf_congr {n : Nat} {f g : Nat → Bool} (h : ∀ j, j < n → f j = g j) : maskOf n f = maskOf n g := by
  unfold maskOf
  have e : (List.range n).filter f = (List.range n).filter g := List.filter_congr fun j hj => h j (List.mem_range.mp hj)
  rw [e]
theorem maskOf_bit (f : Nat → Bool) : ∀ (n i : Nat), (maskOf n f).testBit i = (decide (i < n) && f i)
  | 0, i => by
    rw [maskOf_zero, Nat.zero_testBit]
    simp
  | n + 1, i => by
    have hlt := maskOf_lt n f
    rw [maskOf_succ]
    have ih := maskOf_bit f n i
    cases e : f n with
    | false =>
      show (maskOf n f + 0 * 2 ^ n).testBit i = _
      rw [Nat.zero_mul, Nat.add_zero, ih]
      by_cases h : i = n
      · subst h
        rw [e, Bool.and_false, Bool.and_false]
      · have e2 : decide (i < n) = decide (i < n + 1) := decide_eq_decide.mpr (by omega)
        rw [e2]
    | true =>
      show (maskOf n f + 1 * 2 ^ n).testBit i = _
      rw [Nat.one_mul, Nat.add_comm]
      by_cases h : i = n
      · subst h
        rw [Nat.testBit_two_pow_add_eq, ih, e]
        simp
      · by_cases h2 : i < n
        · rw [Nat.testBit_two_pow_add_gt h2, ih]
          have e2 : decide (i < n) = decide (i < n + 1) := decide_eq_decide.mpr (by omega)
          rw [e2]
        · have hp : 2 ^ n + maskOf n f < 2 ^ (n + 1) := by
            rw [Nat.pow_succ]
            omega
          have hp2 : 2 ^ n + maskOf n f < 2 ^ i := Nat.lt_of_lt_of_le hp (Nat.pow_le_pow_right (by decide) (by omega))
          rw [Nat.testBit_lt_two_pow hp2, decide_eq_false (by omega), Bool.false_and]
/-- a byte is the pack of its bits -/
theorem pack_testBit {x : Nat} (h : x < 256) : pack (fun i => x.testBit i) = x := by
  refine Nat.eq_of_testBit_eq fun i => ?_
  rw [pack_mask, maskOf_bit]
  by_cases hi : i < 8
  · rw [decide_eq_true hi, Bool.true_and]
  · have : x < 2 ^ i := Nat.lt_of_lt_of_le (show x < 2 ^ 8 from h) (Nat.pow_le_pow_right (by decide) (by omega))
    rw [decide_eq_false hi, Nat.testBit_lt_two_pow this, Bool.false_and]
/-- two numbers that have no bit in common: or is the sum -/
theorem or_add {a b n : Nat} (h : b < 2 ^ n) : a * 2 ^ n ||| b = a * 2 ^ n + b := by
  rw [Nat.mul_comm, Nat.two_pow_add_eq_or_of_lt h]
end Br

end
set_option Elab.async false
set_option linter.all false
set_option maxRecDepth 100000
/-! THE HAND LAYER, for ints, bools, texts, own classes, lists, tuples, dicts, comprehensions, walks over dicts, enumerate, zip, reversed, texts, calls, loops. Paste it whole ahead of your own text; what your proof does not reach may be deleted. -/
namespace L2
open PySem PySem.Spec PyProof.Rows

/-- a key: an int or a str -/
abbrev Key := Sum Int Str
def keyIs : Key → Value → Bool
  | .inl k, v => Value.isInt k v
  | .inr x, v => Value.isStrOf x v
def keyH (w : World) : Key → Int
  | .inl k => hashInt k
  | .inr x => hashStr w x
theorem keyIs_shape : ∀ {k : Key} {v : Value}, keyIs k v = true → (∃ i t, k = Sum.inl i ∧ v = Value.int i t) ∨ (∃ x t, k = Sum.inr x ∧ v = Value.str x t)
  | .inl i, v, h => by
    obtain ⟨t, e⟩ := Value.isInt_shape (k := i) (v := v) h
    exact .inl ⟨i, t, rfl, e⟩
  | .inr x, v, h => by
    obtain ⟨t, e⟩ := Value.isStrOf_shape (x := x) (v := v) h
    exact .inr ⟨x, t, rfl, e⟩
theorem keyIs_int (i : Int) (t : Tok) : keyIs (.inl i) (.int i t) = true := by simp [keyIs, Value.isInt]
theorem keyIs_str (x : Str) (t : Tok) : keyIs (.inr x) (.str x t) = true := by simp [keyIs, Value.isStrOf]
theorem key_ll (a b : Int) : decide ((Sum.inl a : Key) = Sum.inl b) = (a == b) := by
  by_cases e : a = b
  · subst e; simp
  · have h : ¬ (Sum.inl a : Key) = Sum.inl b := fun q => e (Sum.inl.inj q)
    rw [decide_eq_false h]
    exact (beq_eq_false_iff_ne.mpr e).symm
theorem key_rr (a b : Str) : decide ((Sum.inr a : Key) = Sum.inr b) = decide (a = b) := by
  by_cases e : a = b
  · subst e; simp
  · have h : ¬ (Sum.inr a : Key) = Sum.inr b := fun q => e (Sum.inr.inj q)
    rw [decide_eq_false h, decide_eq_false e]
theorem key_lr (a : Int) (b : Str) : decide ((Sum.inl a : Key) = Sum.inr b) = false := decide_eq_false (fun q => nomatch q)
theorem key_rl (a : Str) (b : Int) : decide ((Sum.inr a : Key) = Sum.inl b) = false := decide_eq_false (fun q => nomatch q)

def mixKind (prog : Program) (w : World) : PySem.KeyKind prog w Key where
  is := keyIs
  hash := keyH w
  inj := fun v a b ha hb => by
    rcases keyIs_shape ha with ⟨i, t, rfl, rfl⟩ | ⟨x, t, rfl, rfl⟩
    · rcases keyIs_shape hb with ⟨j, u, rfl, e⟩ | ⟨y, u, rfl, e⟩
      · injection e with e1 _; rw [e1]
      · exact nomatch e
    · rcases keyIs_shape hb with ⟨j, u, rfl, e⟩ | ⟨y, u, rfl, e⟩
      · exact nomatch e
      · injection e with e1 _; rw [e1]
  byValue := fun k v h => by
    rcases keyIs_shape h with ⟨i, t, rfl, rfl⟩ | ⟨x, t, rfl, rfl⟩ <;> rfl
  pyHash := fun hv h => by
    rcases keyIs_shape hv with ⟨i, t, rfl, rfl⟩ | ⟨x, t, rfl, rfl⟩
    · exact wpAny_pyHash_int h
    · exact wpAny_pyHash_str h
  eqBool := fun hu hv h => by
    rcases keyIs_shape hu with ⟨i, t, rfl, rfl⟩ | ⟨x, t, rfl, rfl⟩
    · rcases keyIs_shape hv with ⟨j, u, rfl, rfl⟩ | ⟨y, u, rfl, rfl⟩
      · rw [key_ll] at h; exact wpAny_eqBool_int h
      · rw [key_lr] at h; exact SeqAt.EqAt.int_str i t y u _ _ _ _ h
    · rcases keyIs_shape hv with ⟨j, u, rfl, rfl⟩ | ⟨y, u, rfl, rfl⟩
      · rw [key_rl] at h; exact SeqAt.EqAt.str_int x t j u _ _ _ _ h
      · rw [key_rr] at h; exact wpAny_eqBool_str h
  «strs» := fun k x t v h => by
    rcases keyIs_shape h with ⟨i, u, rfl, e⟩ | ⟨y, u, rfl, e⟩
    · exact nomatch e
    · injection e with e1 _
      subst e1
      cases v <;> rfl

theorem mixKind_int (prog : Program) (w : World) (i : Int) (t : Tok) : (mixKind prog w).is (.inl i) (.int i t) = true := keyIs_int i t
theorem mixKind_str (prog : Program) (w : World) (x : Str) (t : Tok) : (mixKind prog w).is (.inr x) (.str x t) = true := keyIs_str x t
end L2

namespace L2
open PySem PySem.Spec PyProof.Rows

/-- a value, without the heap -/
inductive V where
  | non | bl (b : Bool) | int (i : Int) | str (x : Str) | byt (b : Array UInt8) | flt (b : UInt64) | ref (a : Addr) | ty (n : String)
  deriving DecidableEq

def RelV : V → Value → Prop
  | .non, u => u = Value.none
  | .bl b, u => u = Value.bool b
  | .int i, u => ∃ t, u = Value.int i t
  | .str x, u => ∃ t, u = Value.str x t
  | .byt b, u => ∃ t, u = Value.bytes b t
  | .flt b, u => ∃ t, u = Value.float b t
  | .ref a, u => u = Value.ref a
  | .ty n, u => u = Value.type n

abbrev Vals : List V → List Value → Prop := Paired RelV
theorem Vals.length {xs : List V} {us : List Value} (r : Vals xs us) : xs.length = us.length := Paired.length r
theorem Vals.get : ∀ {xs : List V} {us : List Value} {i : Nat} {x : V}, Vals xs us → xs[i]? = some x → ∃ u, us[i]? = some u ∧ RelV x u
  | _, _, _, _, .nil, e => by simp at e
  | _, _, 0, _, .cons r _, e => by simp at e; subst e; exact ⟨_, rfl, r⟩
  | _, _, i + 1, x, .cons _ t, e => by
    obtain ⟨u, h1, h2⟩ := Vals.get (i := i) (x := x) t (by simpa using e)
    exact ⟨u, by simpa using h1, h2⟩
theorem Vals.set {x : V} {u : Value} (r : RelV x u) : ∀ {xs : List V} {us : List Value} (i : Nat), Vals xs us → Vals (xs.set i x) (us.set i u)
  | _, _, _, .nil => .nil
  | _, _, 0, .cons _ t => .cons r t
  | _, _, i + 1, .cons q t => .cons q (Vals.set r i t)
theorem Vals.append : ∀ {xs ys : List V} {us ws : List Value}, Vals xs us → Vals ys ws → Vals (xs ++ ys) (us ++ ws)
  | _, _, _, _, .nil, s => s
  | _, _, _, _, .cons r t, s => .cons r (Vals.append t s)
theorem Vals.take : ∀ {xs : List V} {us : List Value} (n : Nat), Vals xs us → Vals (xs.take n) (us.take n)
  | _, _, 0, _ => .nil
  | _, _, _ + 1, .nil => .nil
  | _, _, n + 1, .cons r t => .cons r (Vals.take n t)
theorem Vals.drop : ∀ {xs : List V} {us : List Value} (n : Nat), Vals xs us → Vals (xs.drop n) (us.drop n)
  | _, _, 0, r => r
  | _, _, _ + 1, .nil => .nil
  | _, _, n + 1, .cons _ t => Vals.drop n t

def RelO : Option V → Option Value → Prop
  | some v, some u => RelV v u
  | none, none => True
  | _, _ => False
def KV {κ : Type} : List (κ × V) → List (κ × Value) → Prop := Paired fun (p : κ × V) (q : κ × Value) => p.1 = q.1 ∧ RelV p.2 q.2

/-- a key of a dict (00_mix): an int or a text -/
def kV : Key → V
  | .inl i => .int i
  | .inr x => .str x

/-- what stands at a tracked address -/
inductive HO where
  /-- a list -/
  | lst (xs : List V)
  /-- a tuple (never changes) -/
  | tup (xs : List V)
  /-- a dict whose keys are ints and texts; one whose keys are tuples of ints and texts (the empty one is both) -/
  | dK (kvs : List (Key × V)) | dT (kvs : List (List Key × V))
  /-- a set of ints: its members, its size -/
  | set (S : Int → Bool) (n : Nat)
  /-- an instance of the class at C, its dict at dx, its attributes -/
  | ins (C dx : Addr) (fs : List (Str × V))
  /-- the dict of the instance at x -/
  | own (x : Addr)
  /-- the dict of an exception -/
  | xd (fs : List (Str × V))
  /-- a bound method, f of x -/
  | met (f x : Addr)
  /-- a range object lo, lo + 1, .. below hi -/
  | rng (lo hi : Int)
  /-- a thing that is known to the object (the script; a dict while a loop walks it): read, never written while it is so -/
  | frz (o : Obj) (u : HO)
  /-- a code object's table -/
  | tbl (ps : Array Value)
  /-- any other thing, by what is true of its one object (a def of one's own: SetO a S n := HO.ext fun h => ..) -/
  | ext (φ : Heap → Prop)

abbrev Hp := Addr → Option HO
def upd (H : Hp) (a : Addr) (o : HO) : Hp := fun b => if b = a then some o else H b
theorem upd_same {H : Hp} {a : Addr} {o : HO} : upd H a o a = some o := by unfold upd; rw [if_pos rfl]
theorem upd_ne {H : Hp} {a b : Addr} {o : HO} (h : b ≠ a) : upd H a o b = H b := by unfold upd; rw [if_neg h]
theorem upd_upd {H : Hp} {a : Addr} {o u : HO} : upd (upd H a o) a u = upd H a u := by
  funext b; unfold upd; split <;> rfl
/-- two objects of different content stand apart -/
theorem ne_of {H : Hp} {a b : Addr} {o u : HO} (h : H a = some o) (h' : H b = some u) (d : o ≠ u) : a ≠ b := by
  intro e; subst e; rw [h] at h'; exact d (Option.some.inj h')
theorem ne_of_none {H : Hp} {a b : Addr} {o : HO} (h : H a = some o) (h' : H b = none) : a ≠ b := by
  intro e; subst e; rw [h] at h'; cases h'

section
variable (P : Program) (w : World)
def ObjOk (H : Hp) (h : Heap) (a : Addr) : HO → Prop
  | .lst xs => xs.length ≤ sizeLine ∧ ∃ (its : List Value) (n : Nat), Vals xs its ∧ h.get? a = some { cls := .type "list", data := .seq its.toArray n }
  | .tup xs => xs.length ≤ sizeLine ∧ ∃ its : List Value, Vals xs its ∧ IsTup h a its.toArray
  | .dK kvs => kvs.length ≤ sizeLine ∧ (a == sysModules) = false ∧ ∃ vs, KV kvs vs ∧ h.DictOf (mixKind P w) a vs
  | .dT kvs => kvs.length ≤ sizeLine ∧ (a == sysModules) = false ∧ ∃ xs : List (List Key × Addr × Value),
      Paired (fun (p : List Key × V) (q : List Key × Addr × Value) => p.1 = q.1 ∧ H q.2.1 = some (.tup (p.1.map kV)) ∧ RelV p.2 q.2.2) kvs xs ∧
      ∃ o es ep, h.get? a = some o ∧ o.ExactDict ∧ o.data = .dict es ep ∧ es.toList = xs.map (entryOfKey (tupleKind (mixKind P w))) ∧ (xs.map (·.1)).Nodup
  | .set S n => h.SetOf (intKind P w) a S n
  | .ins C dx fs => H dx = some (.own a) ∧ fs.length ≤ 1000 ∧ dx ≠ a ∧ h.get? a = some (PySem.W.instObj C dx) ∧
      ∃ mA, h.Ns1 dx mA ∧ (∀ f, RelO (fs.lookup f) (mA f)) ∧ PySem.Within mA (fs.map (·.1))
  | .own _ => ∃ o, h.get? a = some o
  | .xd fs => ∃ mA, h.Ns1 a mA ∧ ∀ f, RelO (fs.lookup f) (mA f)
  | .rng lo hi => ∃ t u v, h.get? a = some { cls := .type "range", data := .fields #[.int lo t, .int hi u, .int 1 v] }
  | .frz o u => h.get? a = some o ∧ ObjOk H h a u
  | .tbl ps => h.get? a = some { cls := .none, data := .fields ps }
  | .met f x => h.get? a = some (PySem.W.methodObj (.ref f) (.ref x))
  | .ext φ => φ h ∧ (∃ o, h.get? a = some o) ∧ ∀ h1 h2 : Heap, φ h1 → (∀ o, h1.get? a = some o → h2.get? a = some o) → φ h2
/-- the abstract heap is held -/
def HOk (H : Hp) (h : Heap) : Prop := ∀ a o, H a = some o → ObjOk P w H h a o
end

section
variable {P : Program} {w : World} {H H' : Hp} {h h' : Heap} {a : Addr} {o : HO}
theorem ObjOk.lt (x : ObjOk P w H h a o) : a < h.objs.size := by
  cases o with
  | lst xs => obtain ⟨_, _, _, _, e⟩ := x; exact Heap.lt_size e
  | tup xs => obtain ⟨_, _, _, p⟩ := x; exact p.lt
  | dK kvs => obtain ⟨_, _, _, _, o, _, _, e, _⟩ := x; exact Heap.lt_size e
  | dT kvs => obtain ⟨_, _, _, _, o, _, _, e, _⟩ := x; exact Heap.lt_size e
  | set S n => obtain ⟨o, _, _, _, e, _⟩ := x; exact Heap.lt_size e
  | ins C dx fs => obtain ⟨_, _, _, e, _⟩ := x; exact Heap.lt_size e
  | own y => obtain ⟨_, e⟩ := x; exact Heap.lt_size e
  | xd fs => obtain ⟨_, ⟨_, _, _, e, _⟩, _⟩ := x; exact Heap.lt_size e
  | rng lo hi => obtain ⟨_, _, _, e⟩ := x; exact Heap.lt_size e
  | frz ob u => obtain ⟨e, _⟩ := x; exact Heap.lt_size e
  | tbl ps => exact Heap.lt_size (show h.get? a = some _ from x)
  | met f y => exact Heap.lt_size (show h.get? a = some _ from x)
  | ext φ => obtain ⟨_, ⟨_, e⟩, _⟩ := x; exact Heap.lt_size e
theorem Paired.mapP {α β : Type} {F G : α → β → Prop} : ∀ {l₁ : List α} {l₂ : List β}, Paired F l₁ l₂ → (∀ a b, F a b → G a b) → Paired G l₁ l₂
  | _, _, .nil, _ => .nil
  | _, _, .cons r t, f => .cons (f _ _ r) (Paired.mapP t f)
/-- what an object's description leans on: its own object, its own dict, the tuples -/
theorem ObjOk.stay (x : ObjOk P w H h a o) (k : ∀ b u, (b = a ∨ H b = some (.own a)) → h.get? b = some u → h'.get? b = some u)
    (ho : ∀ b, H b = some (.own a) → H' b = some (.own a)) (ht : ∀ b xs, H b = some (.tup xs) → H' b = some (.tup xs)) : ObjOk P w H' h' a o := by
  induction o with
  | lst xs => obtain ⟨z, its, n, r, e⟩ := x; exact ⟨z, its, n, r, k _ _ (.inl rfl) e⟩
  | tup xs => obtain ⟨z, its, r, ob, e, c⟩ := x; exact ⟨z, its, r, ob, k _ _ (.inl rfl) e, c⟩
  | dK kvs => obtain ⟨z, y, vs, r, ob, es, ep, e, c⟩ := x; exact ⟨z, y, vs, r, ob, es, ep, k _ _ (.inl rfl) e, c⟩
  | dT kvs =>
    obtain ⟨z, y, xs, r, ob, es, ep, e, c⟩ := x
    exact ⟨z, y, xs, Paired.mapP r fun p q z => ⟨z.1, ht _ _ z.2.1, z.2.2⟩, ob, es, ep, k _ _ (.inl rfl) e, c⟩
  | set S n => obtain ⟨ob, es, ep, t, e, c⟩ := x; exact ⟨ob, es, ep, t, k _ _ (.inl rfl) e, c⟩
  | ins C dx fs =>
    obtain ⟨d, z, ne, e, mA, ⟨od, es, ep, e2, c⟩, r⟩ := x
    exact ⟨ho _ d, z, ne, k _ _ (.inl rfl) e, mA, ⟨od, es, ep, k _ _ (.inr d) e2, c⟩, r⟩
  | own y => obtain ⟨ob, e⟩ := x; exact ⟨ob, k _ _ (.inl rfl) e⟩
  | xd fs => obtain ⟨mA, ⟨od, es, ep, e, c⟩, r⟩ := x; exact ⟨mA, ⟨od, es, ep, k _ _ (.inl rfl) e, c⟩, r⟩
  | rng lo hi => obtain ⟨t, u, v, e⟩ := x; exact ⟨t, u, v, k _ _ (.inl rfl) e⟩
  | frz ob u ih => obtain ⟨e, q⟩ := x; exact ⟨k _ _ (.inl rfl) e, ih q⟩
  | tbl ps =>
    have e : h.get? a = some { cls := .none, data := .fields ps } := x
    show h'.get? a = some { cls := .none, data := .fields ps }
    exact k a _ (.inl rfl) e
  | met f y =>
    have e : h.get? a = some (PySem.W.methodObj (.ref f) (.ref y)) := x
    show h'.get? a = some (PySem.W.methodObj (.ref f) (.ref y))
    exact k a _ (.inl rfl) e
  | ext φ => obtain ⟨p, ⟨o, e⟩, st⟩ := x; exact ⟨st _ _ p fun o q => k _ _ (.inl rfl) q, ⟨o, k _ _ (.inl rfl) e⟩, st⟩
theorem HOk.lt (x : HOk P w H h) (e : H a = some o) : a < h.objs.size := (x a o e).lt
theorem HOk.fresh (x : HOk P w H h) (e : h.objs.size ≤ a) : H a = none := by
  cases q : H a with
  | none => rfl
  | some u => exact absurd (Nat.lt_of_lt_of_le (x.lt q) e) (Nat.lt_irrefl _)
/-- every object of the heap is kept -/
theorem HOk.kept (x : HOk P w H h) (k : ∀ b u, h.get? b = some u → h'.get? b = some u) : HOk P w H h' := fun a o e =>
  (x a o e).stay (fun b u _ q => k b u q) (fun _ q => q) fun _ _ q => q
/-- a new object is laid and tracked -/
theorem HOk.laid (x : HOk P w H h) (k : ∀ b u, h.get? b = some u → h'.get? b = some u) (hp : h.objs.size ≤ a) (new : ObjOk P w (upd H a o) h' a o) : HOk P w (upd H a o) h' := fun b u e => by
  have hn := x.fresh hp
  by_cases hb : b = a
  · subst hb; rw [upd_same] at e; cases e; exact new
  · rw [upd_ne hb] at e
    exact (x b u e).stay (fun c v _ q => k c v q) (fun c q => by rw [upd_ne (ne_of_none q hn)]; exact q) fun c xs q => by rw [upd_ne (ne_of_none q hn)]; exact q
end

/-- what may be read as u: it is u, or a known u -/
def Rd (H : Hp) (a : Addr) (u : HO) : Prop := H a = some u ∨ ∃ o, H a = some (.frz o u)
theorem Rd.ok {P : Program} {w : World} {H : Hp} {h : Heap} {a : Addr} {u : HO} (r : Rd H a u) (x : HOk P w H h) : ObjOk P w H h a u := by
  rcases r with r | ⟨o, r⟩
  · exact x a u r
  · obtain ⟨_, q⟩ := x a _ r
    exact q
/-- what may be written -/
def Mut : Option HO → Prop
  | some (.lst _) => True
  | some (.dK _) => True
  | some (.dT _) => True
  | some (.set _ _) => True
  | some (.ins _ _ _) => True
  | some (.ext _) => True
  | _ => False
section
variable {P : Program} {w : World} {H : Hp} {h h' : Heap} {x e : Addr} {o' : HO}
/-- the object at e is changed: x itself, or the dict of the instance x -/
theorem HOk.write (ok : HOk P w H h) (mu : Mut (H x)) (he : e = x ∨ H e = some (.own x)) (k : ∀ b u, b ≠ e → h.get? b = some u → h'.get? b = some u) (heo : ∃ u, h'.get? e = some u)
    (new : ObjOk P w (upd H x o') h' x o') : HOk P w (upd H x o') h' := fun b u q => by
  have nown : ∀ c y, H c = some (.own y) → c ≠ x := fun c y r z => by subst z; rw [r] at mu; exact mu
  have ntup : ∀ c xs, H c = some (.tup xs) → c ≠ x := fun c xs r z => by subst z; rw [r] at mu; exact mu
  by_cases hb : b = x
  · subst hb; rw [upd_same] at q; cases q; exact new
  · rw [upd_ne hb] at q
    by_cases hbe : b = e
    · have q' : H b = some (.own x) := by
        rcases he with z | z
        · exact absurd (hbe.trans z) hb
        · rw [hbe]; exact z
      rw [q] at q'; cases q'
      obtain ⟨v, hv⟩ := heo
      exact ⟨v, by rw [hbe]; exact hv⟩
    · refine (ok b u q).stay (fun c v hc r => k c v ?_ r) (fun c r => by rw [upd_ne (nown c b r)]; exact r) fun c xs r => by rw [upd_ne (ntup c xs r)]; exact r
      rcases hc with rfl | hc
      · exact hbe
      · rintro rfl
        rcases he with z | z
        · exact nown c b hc z
        · rw [hc] at z; cases z; exact hb rfl
end

/-! ### kept unless tracked; of the frames at fs (the callers') the slots may change (an exception that passes writes there); of the records at ex (iterators) nothing is said -/
structure Un (fs ex : List Addr) (H H' : Hp) (h h' : Heap) : Prop where
  keep : ∀ b o, h.get? b = some o → H b = none → b ∉ fs → b ∉ ex → h'.get? b = some o
  slot : ∀ b o, h.get? b = some o → H b = none → b ∈ fs → b ∉ ex → ∃ sl, h'.get? b = some { o with slots := sl }
  free : ∀ b o, h.get? b = some o → H b = none → b ∉ ex → H' b = none
  there : ∀ b o, h.get? b = some o → b ∉ ex → ∃ o', h'.get? b = some o'
  tups : ∀ b xs, H b = some (.tup xs) → H' b = some (.tup xs)
  frzs : ∀ b o u, H b = some (.frz o u) → H' b = some (.frz o u)
  tbls : ∀ b ps, H b = some (.tbl ps) → ∃ more, H' b = some (.tbl (ps ++ more))
section
variable {fs fs' ex ex' : List Addr} {H H1 H2 : Hp} {h h1 h2 h' : Heap} {a x e : Addr} {o : HO}
theorem Un.any (u : Un fs ex H H1 h h1) {b : Addr} {ob : Obj} (q : h.get? b = some ob) (n : H b = none) (hx : b ∉ ex) : ∃ sl, h1.get? b = some { ob with slots := sl } := by
  by_cases hb : b ∈ fs
  · exact u.slot b ob q n hb hx
  · exact ⟨ob.slots, u.keep b ob q n hb hx⟩
theorem Un.kept (k : ∀ b u, h.get? b = some u → h'.get? b = some u) : Un fs ex H H h h' :=
  ⟨fun b ob q _ _ _ => k b ob q, fun b ob q _ _ _ => ⟨ob.slots, k b ob q⟩, fun _ _ _ n _ => n, fun b ob q _ => ⟨ob, k b ob q⟩, fun _ _ q => q, fun _ _ _ q => q, fun _ ps q => ⟨#[], by rw [q]; simp⟩⟩
theorem Un.refl : Un fs ex H H h h := Un.kept fun _ _ q => q
theorem Un.laid (k : ∀ b u, h.get? b = some u → h'.get? b = some u) (hp : h.objs.size ≤ a) (hn : H a = none) : Un fs ex H (upd H a o) h h' where
  keep := fun b u q _ _ _ => k b u q
  slot := fun b u q _ _ _ => ⟨u.slots, k b u q⟩
  free := fun b u q n _ => by rw [upd_ne (Nat.ne_of_lt (Nat.lt_of_lt_of_le (Heap.lt_size q) hp))]; exact n
  there := fun b u q _ => ⟨u, k b u q⟩
  tups := fun b xs q => by rw [upd_ne (ne_of_none q hn)]; exact q
  frzs := fun b u xs q => by rw [upd_ne (ne_of_none q hn)]; exact q
  tbls := fun b ps q => ⟨#[], by rw [upd_ne (ne_of_none q hn), q]; simp⟩
theorem Un.write (mu : Mut (H x)) (he : e = x ∨ H e = some (.own x)) (k : ∀ b u, b ≠ e → h.get? b = some u → h'.get? b = some u) (heo : ∃ u, h'.get? e = some u) : Un fs ex H (upd H x o) h h' := by
  have hx : ∀ b, H b = none → b ≠ x := fun b n z => by subst z; rw [n] at mu; exact mu
  have hb : ∀ b, H b = none → b ≠ e := fun b n z => by
    subst z
    rcases he with r | r
    · exact hx b n r
    · rw [n] at r; cases r
  have hm : ∀ b u, H b = some u → ¬ Mut (some u) → b ≠ x := fun b u q nm z => by subst z; rw [q] at mu; exact nm mu
  refine ⟨fun b u q n _ _ => k b u (hb b n) q, fun b u q n _ _ => ⟨u.slots, k b u (hb b n) q⟩, fun b u q n _ => by rw [upd_ne (hx b n)]; exact n, fun b u q _ => ?_,
    fun b xs q => by rw [upd_ne (hm b _ q fun z => z)]; exact q, fun b u xs q => by rw [upd_ne (hm b _ q fun z => z)]; exact q, fun b ps q => ⟨#[], by rw [upd_ne (hm b _ q fun z => z), q]; simp⟩⟩
  by_cases hbe : b = e
  · subst hbe; exact heo
  · exact ⟨u, k b u hbe q⟩
end

/-! ### the heap without what is tracked -/
def trk (h : Heap) (H : Hp) : List Addr := (List.range h.objs.size).filter fun a => (H a).isSome
def hidT (h : Heap) (H : Hp) : Heap := PySem.W.hideAll h (trk h H)
theorem hidT_size (h : Heap) (H : Hp) : (hidT h H).objs.size = h.objs.size := PySem.W.hideAll_size _ _
theorem hidT_get {h : Heap} {H : Hp} {b : Addr} {o : Obj} (e : h.get? b = some o) (n : H b = none) : (hidT h H).get? b = some o :=
  PySem.W.hideAll_get _ e fun hm => by
    have q : (H b).isSome = true := (List.mem_filter.mp hm).2
    rw [n] at q; simp at q
theorem of_hidT {h : Heap} {H : Hp} {b : Addr} {o : Obj} (e : (hidT h H).get? b = some o) : h.get? b = some o ∧ H b = none := by
  have e' : h.get? b = some o := PySem.W.of_hideAll (trk h H) e
  refine ⟨e', ?_⟩
  cases q : H b with
  | none => rfl
  | some x =>
    have hm : b ∈ trk h H := List.mem_filter.mpr ⟨List.mem_range.mpr (Heap.lt_size e'), by simp [q]⟩
    have z : (hidT h H).get? b = none := PySem.W.hideAll_none (trk h H) hm
    rw [z] at e; cases e

/-! ### OpenK's ledger, filled with every new object but one -/
end L2

namespace L2
open PySem PySem.Spec PyProof.Rows

/-- the module's facts, over the base: the heap at the law's entry without what is tracked there -/
structure Mod (K : PySem.W.Frag) (mg : Str → Option Value) (base : Heap) : Prop where
  kin : K.In base
  glob : base.Ns mainGlobals mg
  blt : ∃ mb, base.Ns builtinsNs mb ∧ ∀ x : Str, x ≠ "__name__" → mb x = bootBuiltins x
  nolimit : base.NoLimit

/-- the context: a def's body (or a comprehension's block) running. base: fixed through the whole law; s₀, H₀: the entry; outer: the frames whose slots others may change (a def's callers); stack: all frames that run;
   ex: iterators that were made ahead of the entry and are walked here (a comprehension's); fn: the names whose cells were made at the entry (a def: all; a comprehension's block: its own); calm: not within an except suite; pn: pins that every state bears; xe: what is wanted of an exception that leaves the code -/
structure Cx where
  prog : Program
  w : World
  K : PySem.W.Frag
  mg : Str → Option Value
  base : Heap
  A : Around
  N : List Str
  s_0 : Shared
  H_0 : Hp
  env : Env
  outer : List Env
  stack : List Env
  ex : List Addr
  fn : Str → Bool
  calm : Bool
  pn : List (Addr × Obj)
  xe : Value → Shared → Prop
/-- the callers' frames -/
def frs (l : List Env) : List Addr := l.filterMap (·.frame)
abbrev Cx.fs (X : Cx) : List Addr := frs X.outer

def Vis (sc : Scope) (x : Str) : Prop := sc.names.lookup x = some .local ∨ sc.names.lookup x = some .cell ∨ sc.names.lookup x = some .free
def Loc (sc : Scope) (x : Str) : Prop := sc.names.lookup x = some .local ∨ sc.names.lookup x = some .cell
def Look (env : Env) (h : Heap) (m : Str → Option Value) (x : Str) (u : Value) : Prop :=
  (env.kindOf x = some .local ∧ m x = some u) ∨ ((env.kindOf x = some .cell ∨ env.kindOf x = some .free) ∧ ∃ c, env.cells.lookup x = some c ∧ h.IsCell c (some u))

structure Cx.Ok (X : Cx) : Prop where
  mod : Mod X.K X.mg X.base
  kind : X.env.scope.kind = .function
  glob : X.env.globals = mainGlobals
  blt : X.env.builtins = builtinsNs
  above : X.s_0.heap.objs.size ≤ X.env.locals
  inj : ∀ x y c, X.env.cells.lookup x = some c → X.env.cells.lookup y = some c → x = y
  has : ∀ x, (X.env.kindOf x = some .cell ∨ X.env.kindOf x = some .free) → ∃ c, X.env.cells.lookup x = some c
  cab : ∀ x c, X.fn x = true → X.env.cells.lookup x = some c → X.s_0.heap.objs.size ≤ c
  hd : X.calm = true → X.A.handled = none
  frames : X.A.frames = some X.stack
  stk : X.stack = X.outer ∨ (X.stack = X.env :: X.outer ∧ X.env.frame = some X.env.locals)
  exf : ∀ b ∈ X.ex, b ≠ X.env.locals ∧ ∀ x c, X.env.cells.lookup x = some c → c ≠ b
  bs : ∀ b o, X.base.get? b = some o → X.s_0.heap.get? b = some o ∧ X.H_0 b = none
  bsz : X.base.objs.size ≤ X.s_0.heap.objs.size
  noex : ∀ b o, X.base.get? b = some o → b ∉ X.ex
  exfs : ∀ b ∈ X.ex, b ∉ X.fs
  funs : X.s_0.heap.FunFrames X.base X.outer
  frf : ∀ b ∈ X.fs, X.H_0 b = none

structure Inv (X : Cx) (pins : List (Addr × Obj)) (σ : List (Option V)) (H : Hp) (s : Shared) : Prop where
  ok : X.Ok
  os : s.os = X.s_0.os
  bare : AllBare s.gens
  base : Un X.fs X.ex X.H_0 H X.s_0.heap s.heap
  loc : ∃ m, s.heap.Ns X.env.locals m ∧ ∀ (i : Nat) (x : Str) (v : V), X.N[i]? = some x → σ[i]? = some (some v) → Vis X.env.scope x → ∃ u, RelV v u ∧ Look X.env s.heap m x u
  cell : ∀ x c, X.env.cells.lookup x = some c → ∃ v, s.heap.IsCell c v
  free : H X.env.locals = none
  freeC : ∀ x c, X.env.cells.lookup x = some c → H c = none
  pin : ∀ p ∈ X.pn ++ pins, s.heap.get? p.1 = some p.2 ∧ H p.1 = none ∧ p.1 ≠ X.env.locals ∧ p.1 ∉ X.fs ∧ ∀ v, p.2.data ≠ .cell v
  hok : HOk X.prog X.w H s.heap
  len : σ.length = X.N.length

section
variable {X : Cx} {pins : List (Addr × Obj)} {σ : List (Option V)} {H H' : Hp} {s : Shared} {h' : Heap}

theorem Cx.Ok.nofr (ok : X.Ok) {b : Addr} {o : Obj} (e : X.base.get? b = some o) : b ∉ X.fs := fun hb => by
  have := (ok.funs.mem hb).1
  rw [e] at this; cases this
theorem Inv.bs (I : Inv X pins σ H s) : ∀ b o, X.base.get? b = some o → s.heap.get? b = some o ∧ H b = none := fun b o e =>
  ⟨I.base.keep b o (I.ok.bs b o e).1 (I.ok.bs b o e).2 (I.ok.nofr e) (I.ok.noex b o e), I.base.free b o (I.ok.bs b o e).1 (I.ok.bs b o e).2 (I.ok.noex b o e)⟩
theorem Inv.bk (I : Inv X pins σ H s) : ∀ b o, X.base.get? b = some o → s.heap.get? b = some o := fun b o e => (I.bs b o e).1
theorem Inv.mod (I : Inv X pins σ H s) : Mod X.K X.mg X.base := I.ok.mod
theorem Inv.kIn (I : Inv X pins σ H s) : X.K.In s.heap := I.ok.mod.kin.keeps I.bk
theorem Inv.lt (I : Inv X pins σ H s) : X.env.locals < s.heap.objs.size := let ⟨_, hn, _⟩ := I.loc; hn.lt
theorem Inv.sz (I : Inv X pins σ H s) : X.s_0.heap.objs.size ≤ s.heap.objs.size := Nat.le_trans I.ok.above (Nat.le_of_lt I.lt)
theorem Inv.nofs (I : Inv X pins σ H s) {a : Addr} (h : s.heap.objs.size ≤ a) : a ∉ X.fs := fun hb => by
  obtain ⟨_, o, ho, _⟩ := I.ok.funs.mem hb
  exact absurd (Nat.lt_of_lt_of_le (Heap.lt_size ho) (Nat.le_trans I.sz h)) (Nat.lt_irrefl _)
theorem Inv.cne (I : Inv X pins σ H s) : ∀ x c, X.env.cells.lookup x = some c → c ≠ X.env.locals := fun x c e z => by
  obtain ⟨v, o, ho, hd⟩ := I.cell x c e
  obtain ⟨m, ⟨o', es, ep, ho', hd', _⟩, _⟩ := I.loc
  rw [z, ho'] at ho; cases ho; rw [hd'] at hd; cases hd
theorem Inv.funs (I : Inv X pins σ H s) : s.heap.FunFrames X.base X.outer := by
  have all : ∀ (l : List Env), (∀ b ∈ frs l, b ∈ X.fs) → X.s_0.heap.FunFrames X.base l → s.heap.FunFrames X.base l := by
    intro l
    induction l with
    | nil => intro _ _; trivial
    | cons env r ih =>
      intro hs hl
      obtain ⟨hk, ⟨L, o, hf, hn, ho, hd⟩, hr⟩ := hl
      have hL : L ∈ X.fs := hs L (by unfold frs; rw [List.filterMap_cons, hf]; exact List.mem_cons_self)
      obtain ⟨sl, e⟩ := I.base.slot L o ho (I.ok.frf L hL) hL fun z => I.ok.exfs L z hL
      exact ⟨hk, ⟨L, _, hf, hn, e, hd⟩, ih (fun b hb => hs b (by unfold frs; rw [List.filterMap_cons, hf]; exact List.mem_cons_of_mem _ hb)) hr⟩
  exact all X.outer (fun _ hb => hb) I.ok.funs

/-- the frames that run, for a call -/
theorem Inv.stack (I : Inv X pins σ H s) : s.heap.FunFrames X.base X.stack := by
  rcases I.ok.stk with e | ⟨e, hf⟩
  · rw [e]; exact I.funs
  · rw [e]
    obtain ⟨m, hn, _⟩ := I.loc
    refine .cons (by rw [I.ok.kind]; decide) hf hn ?_ I.funs
    exact Heap.get?_none_of_le (Nat.le_trans I.ok.bsz I.ok.above)
theorem Inv.stkSub (I : Inv X pins σ H s) : ∀ b ∈ frs X.stack, b ∈ X.env.locals :: X.fs := fun b hb => by
  rcases I.ok.stk with e | ⟨e, hf⟩
  · rw [e] at hb; exact List.mem_cons_of_mem _ hb
  · rw [e] at hb
    unfold frs at hb
    rw [List.filterMap_cons, hf] at hb
    exact hb
theorem Inv.stkFree (I : Inv X pins σ H s) : ∀ b ∈ frs X.stack, H b = none := fun b hb => by
  rcases List.mem_cons.mp (I.stkSub b hb) with e | hb
  · rw [e]; exact I.free
  · obtain ⟨_, o, ho, _⟩ := I.ok.funs.mem hb
    exact I.base.free b o ho (I.ok.frf b hb) fun z => I.ok.exfs b z hb

/-- THE STEP: the untracked objects but the frame and the records at ch are kept (the callers' frames up to slots), the frame's map is kept, the new abstract heap is held -/
theorem Inv.step {g' : Array GenState} {t' : Nat} {d' : Drawn} {ch : List Addr} (I : Inv X pins σ H s)
    (hch : ∀ b ∈ ch, (b ∈ X.ex ∨ X.s_0.heap.objs.size ≤ b) ∧ b ≠ X.env.locals ∧ (∀ x c, X.env.cells.lookup x = some c → c ≠ b) ∧ ∀ p ∈ X.pn ++ pins, p.1 ≠ b)
    (keep : ∀ b o, b ≠ X.env.locals → b ∉ X.fs → b ∉ ch → s.heap.get? b = some o → H b = none → h'.get? b = some o)
    (slot : ∀ b o, b ≠ X.env.locals → b ∈ X.fs → b ∉ ch → s.heap.get? b = some o → H b = none → ∃ sl, h'.get? b = some { o with slots := sl }) (free : ∀ b o, b ∉ ch → s.heap.get? b = some o → H b = none → H' b = none)
    (there : ∀ b o, b ∉ ch → s.heap.get? b = some o → ∃ o', h'.get? b = some o')
    (tups : ∀ b xs, H b = some (.tup xs) → H' b = some (.tup xs)) (frzs : ∀ b o u, H b = some (.frz o u) → H' b = some (.frz o u)) (tbls : ∀ b ps, H b = some (.tbl ps) → ∃ more, H' b = some (.tbl (ps ++ more)))
    (ns : ∀ m, s.heap.Ns X.env.locals m → h'.Ns X.env.locals m) (hok : HOk X.prog X.w H' h') (hg : AllBare g') :
    Inv X pins σ H' { s with heap := h', gens := g', drawn := d', toks := t' } := by
  have neL : ∀ b o, X.s_0.heap.get? b = some o → b ≠ X.env.locals := fun b o e => Nat.ne_of_lt (Nat.lt_of_lt_of_le (Heap.lt_size e) I.ok.above)
  have neC : ∀ b o, X.s_0.heap.get? b = some o → b ∉ X.ex → b ∉ ch := fun b o e hx hb => by
    rcases (hch b hb).1 with z | z
    · exact hx z
    · exact absurd (Nat.lt_of_lt_of_le (Heap.lt_size e) z) (Nat.lt_irrefl _)
  have cellK : ∀ x c, X.env.cells.lookup x = some c → ∀ v, s.heap.IsCell c v → h'.IsCell c v := fun x c e v ⟨o, ho, hd⟩ => by
    have nch : c ∉ ch := fun z => (hch c z).2.2.1 x c e rfl
    by_cases hc : c ∈ X.fs
    · obtain ⟨sl, q⟩ := slot c o (I.cne x c e) hc nch ho (I.freeC x c e)
      exact ⟨_, q, hd⟩
    · exact ⟨o, keep c o (I.cne x c e) hc nch ho (I.freeC x c e), hd⟩
  refine ⟨I.ok, I.os, hg, ⟨fun b o e n hb hx => ?_, fun b o e n hb hx => ?_, fun b o e n hx => ?_, fun b o e hx => ?_, fun b xs e => tups b xs (I.base.tups b xs e), fun b o xs e => frzs b o xs (I.base.frzs b o xs e), fun b ps e => ?_⟩, ?_, fun x c e => ?_, ?_, fun x c e => ?_, fun p hp => ?_, hok, I.len⟩
  · exact keep b o (neL b o e) hb (neC b o e hx) (I.base.keep b o e n hb hx) (I.base.free b o e n hx)
  · obtain ⟨sl, e1⟩ := I.base.slot b o e n hb hx
    obtain ⟨sl', e2⟩ := slot b _ (neL b o e) hb (neC b o e hx) e1 (I.base.free b o e n hx)
    exact ⟨sl', e2⟩
  · obtain ⟨o', e1⟩ := I.base.there b o e hx
    exact free b o' (neC b o e hx) e1 (I.base.free b o e n hx)
  · obtain ⟨o', e1⟩ := I.base.there b o e hx
    exact there b o' (neC b o e hx) e1
  · obtain ⟨m1, e1⟩ := I.base.tbls b ps e
    obtain ⟨m2, e2⟩ := tbls b _ e1
    exact ⟨m1 ++ m2, by rw [e2, Array.append_assoc]⟩
  · obtain ⟨m, hn, hl⟩ := I.loc
    refine ⟨m, ns m hn, fun i x v e1 e2 e3 => ?_⟩
    obtain ⟨u, r, l⟩ := hl i x v e1 e2 e3
    refine ⟨u, r, ?_⟩
    rcases l with l | ⟨k, c, e, z⟩
    · exact .inl l
    · exact .inr ⟨k, c, e, cellK x c e _ z⟩
  · obtain ⟨v, z⟩ := I.cell x c e
    exact ⟨v, cellK x c e v z⟩
  · obtain ⟨m, ⟨o, _, _, ho, _⟩, _⟩ := I.loc
    exact free _ o (fun z => (hch _ z).2.1 rfl) ho I.free
  · obtain ⟨v, o, ho, hd⟩ := I.cell x c e
    exact free c o (fun z => (hch c z).2.2.1 x c e rfl) ho (I.freeC x c e)
  · obtain ⟨e, n, ne, nf, d⟩ := I.pin p hp
    have nch : p.1 ∉ ch := fun z => (hch p.1 z).2.2.2 p hp rfl
    exact ⟨keep p.1 p.2 ne nf nch e n, free p.1 p.2 nch e n, ne, nf, d⟩
/-- .. where the frame's own object is kept too -/
theorem Inv.un {t' : Nat} (I : Inv X pins σ H s) (u : Un X.fs [] H H' s.heap h') (hok : HOk X.prog X.w H' h') : Inv X pins σ H' { s with heap := h', toks := t' } := by
  obtain ⟨m, ⟨o, es, ep, ho, r⟩, _⟩ := id I.loc
  obtain ⟨sl, hL⟩ := u.any ho I.free (by simp)
  exact I.step (g' := s.gens) (d' := s.drawn) (ch := []) (fun _ z => nomatch z) (fun b o _ hb _ e n => u.keep b o e n hb (by simp)) (fun b o _ hb _ e n => u.slot b o e n hb (by simp)) (fun b o _ e n => u.free b o e n (by simp)) (fun b o _ e => u.there b o e (by simp)) u.tups u.frzs u.tbls (fun m' hm => by
    obtain ⟨o', es', ep', ho', r'⟩ := hm
    rw [ho] at ho'; cases ho'
    exact ⟨_, es', ep', hL, r'⟩) hok I.bare
/-- behind a call (or a comprehension's block): the slots of this frame may have changed too, the records at ch may have turned -/
theorem Inv.call {g' : Array GenState} {t' : Nat} {d' : Drawn} {ch : List Addr} (I : Inv X pins σ H s) (u : Un (frs X.stack) ch H H' s.heap h') (hok : HOk X.prog X.w H' h') (hg : AllBare g')
    (hch : ∀ b ∈ ch, (b ∈ X.ex ∨ X.s_0.heap.objs.size ≤ b) ∧ b ≠ X.env.locals ∧ (∀ x c, X.env.cells.lookup x = some c → c ≠ b) ∧ ∀ p ∈ X.pn ++ pins, p.1 ≠ b) :
    Inv X pins σ H' { s with heap := h', gens := g', drawn := d', toks := t' } := by
  obtain ⟨m, ⟨o, es, ep, ho, r⟩, _⟩ := id I.loc
  obtain ⟨sl, hL⟩ := u.any ho I.free fun z => (hch _ z).2.1 rfl
  exact I.step (ch := ch) hch (fun b o hL hb hc e n => u.keep b o e n (fun z => (List.mem_cons.mp (I.stkSub b z)).elim hL hb) hc) (fun b o _ _ hc e n => u.any e n hc) (fun b o hc e n => u.free b o e n hc) (fun b o hc e => u.there b o e hc) u.tups u.frzs u.tbls (fun m' hm => by
    obtain ⟨o', es', ep', ho', r'⟩ := hm
    rw [ho] at ho'; cases ho'
    exact ⟨_, es', ep', hL, r'⟩) hok hg
/-- an untracked record of ours (an iterator) has turned -/
theorem Inv.turned {t' : Nat} {it : Addr} (I : Inv X pins σ H s) (k : ∀ b o, b ≠ it → s.heap.get? b = some o → h'.get? b = some o) (hn : H it = none) (hL : it ≠ X.env.locals)
    (h1 : it ∈ X.ex ∨ X.s_0.heap.objs.size ≤ it) (h2 : ∀ x c, X.env.cells.lookup x = some c → c ≠ it) (h3 : ∀ p ∈ X.pn ++ pins, p.1 ≠ it) : Inv X pins σ H { s with heap := h', toks := t' } := by
  have nit : ∀ b u, H b = some u → b ≠ it := fun b u e z => by rw [z, hn] at e; cases e
  refine I.step (g' := s.gens) (d' := s.drawn) (ch := [it]) (fun b hb => ?_) (fun b o _ _ hc e _ => k b o (fun z => hc (by simp [z])) e) (fun b o _ _ hc e _ => ⟨o.slots, k b o (fun z => hc (by simp [z])) e⟩) (fun _ _ _ _ n => n)
    (fun b o hc e => ⟨o, k b o (fun z => hc (by simp [z])) e⟩) (fun _ _ e => e) (fun _ _ _ e => e) (fun b ps e => ⟨#[], by rw [e]; simp⟩) (fun m hm => ?_) (fun b u e => ?_) I.bare
  · have e : b = it := by simpa using hb
    subst e
    exact ⟨h1, hL, h2, h3⟩
  · obtain ⟨o, es, ep, ho, r⟩ := hm
    exact ⟨o, es, ep, k _ o (Ne.symm hL) ho, r⟩
  · refine (I.hok b u e).stay (fun c v hc q => k c v ?_ q) (fun _ q => q) fun _ _ q => q
    rcases hc with z | z
    · rw [z]; exact nit b u e
    · exact nit c _ z
theorem Inv.tok (I : Inv X pins σ H s) (t : Nat) : Inv X pins σ H { s with toks := t } := I.un (h' := s.heap) (t' := t) Un.refl I.hok
/-- all objects kept -/
theorem Inv.kept {t' : Nat} (I : Inv X pins σ H s) (k : ∀ b u, s.heap.get? b = some u → h'.get? b = some u) : Inv X pins σ H { s with heap := h', toks := t' } := I.un (Un.kept k) (I.hok.kept k)
/-- a new object laid and tracked -/
theorem Inv.laid {a : Addr} {o : HO} {t' : Nat} (I : Inv X pins σ H s) (k : ∀ b u, s.heap.get? b = some u → h'.get? b = some u) (hp : s.heap.objs.size ≤ a) (new : ObjOk X.prog X.w (upd H a o) h' a o) :
    Inv X pins σ (upd H a o) { s with heap := h', toks := t' } := I.un (Un.laid k hp (I.hok.fresh hp)) (I.hok.laid k hp new)
/-- an object written -/
theorem Inv.write {x e : Addr} {o : HO} {t' : Nat} (I : Inv X pins σ H s) (mu : Mut (H x)) (he : e = x ∨ H e = some (.own x)) (k : ∀ b u, b ≠ e → s.heap.get? b = some u → h'.get? b = some u) (heo : ∃ u, h'.get? e = some u)
    (new : ObjOk X.prog X.w (upd H x o) h' x o) : Inv X pins σ (upd H x o) { s with heap := h', toks := t' } := I.un (Un.write mu he k heo) (I.hok.write mu he k heo new)
/-- forgetting slots, pins -/
theorem Inv.weak {σ' : List (Option V)} (I : Inv X pins σ H s) (hl : σ'.length = σ.length) (w : ∀ (i : Nat) v, σ'[i]? = some (some v) → σ[i]? = some (some v)) : Inv X pins σ' H s :=
  ⟨I.ok, I.os, I.bare, I.base, let ⟨m, hn, hl'⟩ := I.loc; ⟨m, hn, fun i x v e1 e2 e3 => hl' i x v e1 (w i v e2) e3⟩, I.cell, I.free, I.freeC, I.pin, I.hok, hl.trans I.len⟩
theorem Inv.pins_of {pins' : List (Addr × Obj)} (I : Inv X pins σ H s) (h : ∀ p ∈ pins', s.heap.get? p.1 = some p.2 ∧ H p.1 = none ∧ p.1 ≠ X.env.locals ∧ p.1 ∉ X.fs ∧ ∀ v, p.2.data ≠ .cell v) : Inv X pins' σ H s :=
  ⟨I.ok, I.os, I.bare, I.base, I.loc, I.cell, I.free, I.freeC, fun p hp => (List.mem_append.mp hp).elim (fun z => I.pin p (List.mem_append_left _ z)) (h p), I.hok, I.len⟩

theorem nodup_ix {N : List Str} (hN : N.Nodup) {i j : Nat} {x : Str} (a : N[i]? = some x) (b : N[j]? = some x) : i = j := by
  obtain ⟨h1, e1⟩ := List.getElem?_eq_some_iff.mp a
  obtain ⟨h2, e2⟩ := List.getElem?_eq_some_iff.mp b
  exact (List.getElem_inj hN).mp (e1.trans e2.symm)

/-- a name is stored; what changed -/
theorem store_ok2 {M : Model} {A : Around} {E : Value → Shared → Prop} {i : Nat} {x : Str} {v : V} {u : Value} {Q : Unit → Shared → Prop} (I : Inv X pins σ H s) (hN : X.N.Nodup) (hi : X.N[i]? = some x) (hx : Loc X.env.scope x) (r : RelV v u)
    (h : ∀ s', Inv X pins (σ.set i (some v)) H s' → (∃ a, Heap.SameBut a s.heap s'.heap ∧ (a = X.env.locals ∨ X.env.cells.lookup x = some a)) → Q () s') (hf : X.fn x = true ∨ X.env.scope.names.lookup x = some .local := by first | exact .inl rfl | exact .inr rfl | assumption) : wpAny M A (storeName X.env x u) Q E s := by
  obtain ⟨m, hn, hl⟩ := id I.loc
  have hcls : (X.env.scope.kind == .class || (X.env.scope.kind == .module && X.env.locals != X.env.globals)) = false := by rw [I.ok.kind]; rfl
  have hiσ : i < σ.length := by rw [I.len]; exact (List.getElem?_eq_some_iff.mp hi).1
  have cne := I.cne
  have tracked : ∀ {a : Addr} {h' : Heap}, (∃ o, s.heap.get? a = some o ∧ H a = none) → Heap.SameBut a s.heap h' → HOk X.prog X.w H h' := fun {a h'} ha hs b ob e => by
    obtain ⟨_, _, hfree⟩ := ha
    refine (I.hok b ob e).stay (fun c w' hc q => (hs.2 c ?_).trans q) (fun _ q => q) fun _ _ q => q
    rintro rfl
    rcases hc with rfl | hc
    · rw [hfree] at e; cases e
    · rw [hfree] at hc; cases hc
  rcases hx with hk | hk
  · refine wpAny_storeName_local hk hn (fun h' hn' hs => ?_) hcls
    obtain ⟨oL, _, _, hoL, _⟩ := id hn
    refine h _ ⟨I.ok, I.os, I.bare, ⟨fun b o e n hb hx => ?_, fun b o e n hb hx => ?_, I.base.free, fun b o e hx => ?_, I.base.tups, I.base.frzs, I.base.tbls⟩, ⟨_, hn', fun j y v' e1 e2 e3 => ?_⟩, fun y c e => ?_, I.free, I.freeC, fun p hp => ?_, tracked ⟨oL, hoL, I.free⟩ hs, by simpa using I.len⟩ ⟨_, hs, .inl rfl⟩
    · exact (hs.2 b (Nat.ne_of_lt (Nat.lt_of_lt_of_le (Heap.lt_size e) I.ok.above))).trans (I.base.keep b o e n hb hx)
    · obtain ⟨sl, e1⟩ := I.base.slot b o e n hb hx
      exact ⟨sl, (hs.2 b (Nat.ne_of_lt (Nat.lt_of_lt_of_le (Heap.lt_size e) I.ok.above))).trans e1⟩
    · obtain ⟨o', e1⟩ := I.base.there b o e hx
      exact ⟨o', (hs.2 b (Nat.ne_of_lt (Nat.lt_of_lt_of_le (Heap.lt_size e) I.ok.above))).trans e1⟩
    · by_cases hj : j = i
      · subst hj
        rw [hi] at e1; cases e1
        rw [List.getElem?_set_self hiσ] at e2
        cases e2
        exact ⟨u, r, .inl ⟨hk, by simp⟩⟩
      · rw [List.getElem?_set_ne (Ne.symm hj)] at e2
        obtain ⟨u', r', q⟩ := hl j y v' e1 e2 e3
        refine ⟨u', r', ?_⟩
        rcases q with ⟨k, e⟩ | ⟨k, c, e, z⟩
        · refine .inl ⟨k, ?_⟩
          have : y ≠ x := fun e => hj (nodup_ix hN e1 (e ▸ hi))
          simp [this, e]
        · exact .inr ⟨k, c, e, z.sameBut hs (cne y c e)⟩
    · obtain ⟨w', z⟩ := I.cell y c e
      exact ⟨w', z.sameBut hs (cne y c e)⟩
    · obtain ⟨e, n, ne, nf, d⟩ := I.pin p hp
      exact ⟨(hs.2 p.1 ne).trans e, n, ne, nf, d⟩
  · have hfn : X.fn x = true := by
      rcases hf with z | z
      · exact z
      · rw [z] at hk; cases hk
    obtain ⟨c, hc⟩ := I.ok.has x (.inl hk)
    obtain ⟨w', z⟩ := I.cell x c hc
    refine wpAny_storeName_cell I.ok.kind hk hc z (fun h' hc' hs => ?_)
    obtain ⟨oc, hoc, hocd⟩ := id z
    refine h { s with heap := h' } ⟨I.ok, I.os, I.bare, ⟨fun b o e n hb hx => ?_, fun b o e n hb hx => ?_, I.base.free, fun b o e hx => ?_, I.base.tups, I.base.frzs, I.base.tbls⟩, ⟨m, hn.sameBut hs (Ne.symm (cne x c hc)), fun j y v' e1 e2 e3 => ?_⟩, fun y c' e => ?_, I.free, I.freeC, fun p hp => ?_, tracked ⟨oc, hoc, I.freeC x c hc⟩ hs, by simpa using I.len⟩ ⟨c, hs, .inr hc⟩
    · exact (hs.2 b (Nat.ne_of_lt (Nat.lt_of_lt_of_le (Heap.lt_size e) (I.ok.cab x c hfn hc)))).trans (I.base.keep b o e n hb hx)
    · obtain ⟨sl, e1⟩ := I.base.slot b o e n hb hx
      exact ⟨sl, (hs.2 b (Nat.ne_of_lt (Nat.lt_of_lt_of_le (Heap.lt_size e) (I.ok.cab x c hfn hc)))).trans e1⟩
    · obtain ⟨o', e1⟩ := I.base.there b o e hx
      exact ⟨o', (hs.2 b (Nat.ne_of_lt (Nat.lt_of_lt_of_le (Heap.lt_size e) (I.ok.cab x c hfn hc)))).trans e1⟩
    · by_cases hj : j = i
      · subst hj
        rw [hi] at e1; cases e1
        rw [List.getElem?_set_self hiσ] at e2
        cases e2
        exact ⟨u, r, .inr ⟨.inl hk, c, hc, hc'⟩⟩
      · rw [List.getElem?_set_ne (Ne.symm hj)] at e2
        obtain ⟨u', r', q⟩ := hl j y v' e1 e2 e3
        refine ⟨u', r', ?_⟩
        rcases q with q | ⟨k, c', e, z'⟩
        · exact .inl q
        · refine .inr ⟨k, c', e, z'.sameBut hs ?_⟩
          rintro rfl
          exact hj (nodup_ix hN e1 (I.ok.inj _ _ _ e hc ▸ hi))
    · by_cases hcc : c' = c
      · subst hcc; exact ⟨_, hc'⟩
      · obtain ⟨w2, z2⟩ := I.cell y c' e
        exact ⟨w2, z2.sameBut hs hcc⟩
    · obtain ⟨e, n, ne, nf, d⟩ := I.pin p hp
      refine ⟨(hs.2 p.1 ?_).trans e, n, ne, nf, d⟩
      intro q
      rw [q, hoc] at e
      have q' : oc = p.2 := Option.some.inj e
      exact d w' (by rw [← q']; exact hocd)
theorem store_ok {M : Model} {A : Around} {E : Value → Shared → Prop} {i : Nat} {x : Str} {v : V} {u : Value} {Q : Unit → Shared → Prop} (I : Inv X pins σ H s) (hN : X.N.Nodup) (hi : X.N[i]? = some x) (hx : Loc X.env.scope x) (r : RelV v u)
    (h : ∀ s', Inv X pins (σ.set i (some v)) H s' → Q () s') (hf : X.fn x = true ∨ X.env.scope.names.lookup x = some .local := by first | exact .inl rfl | exact .inr rfl | assumption) : wpAny M A (storeName X.env x u) Q E s :=
  store_ok2 I hN hi hx r (fun s' I' _ => h s' I') hf
/-- behind a call or a block, the state as it is -/
theorem Inv.call' {s' : Shared} {ch : List Addr} (I : Inv X pins σ H s) (ho : s'.os = s.os) (u : Un (frs X.stack) ch H H' s.heap s'.heap) (hok : HOk X.prog X.w H' s'.heap) (hg : AllBare s'.gens)
    (hch : ∀ b ∈ ch, (b ∈ X.ex ∨ X.s_0.heap.objs.size ≤ b) ∧ b ≠ X.env.locals ∧ (∀ x c, X.env.cells.lookup x = some c → c ≠ b) ∧ ∀ p ∈ X.pn ++ pins, p.1 ≠ b) : Inv X pins σ H' s' := by
  obtain ⟨h', g', d', t', o'⟩ := s'
  have e : o' = s.os := ho
  subst e
  exact I.call (g' := g') (t' := t') (d' := d') u hok hg hch
end

/-! ### the judgements -/
/-- an exception: its class, its own dict's address (where it has one), the abstract heap behind it -/
abbrev XK := Value → Option Addr → Hp → Prop
abbrev St := List (Option V)
abbrev VK := V → Hp → Prop
/-- an expression's reading; a test's; an argument list's -/
abbrev TE := St → Hp → VK → Prop
abbrev TT := St → Hp → (Bool → Hp → Prop) → Prop
abbrev TA := St → Hp → (List V → Hp → Prop) → Prop
/-- what is wanted behind a statement -/
structure Ends where
  nx : St → Hp → Prop
  rt : VK
  bk : St → Hp → Prop := fun _ _ => False
  ct : St → Hp → Prop := fun _ _ => False
abbrev TS := Ends → St → Hp → Prop

def EP (X : Cx) (pins : List (Addr × Obj)) (σ : St) (Q : VK) (u : Value) (s' : Shared) : Prop := ∃ v H', Inv X pins σ H' s' ∧ RelV v u ∧ Q v H'
def TP (X : Cx) (pins : List (Addr × Obj)) (σ : St) (Q : Bool → Hp → Prop) (b : Bool) (s' : Shared) : Prop := ∃ H', Inv X pins σ H' s' ∧ Q b H'
def AP (X : Cx) (pins : List (Addr × Obj)) (σ : St) (Q : List V → Hp → Prop) (us : List Value) (s' : Shared) : Prop := ∃ vs H', Inv X pins σ H' s' ∧ Vals vs us ∧ Q vs H'
def SP (X : Cx) (pins : List (Addr × Obj)) (D : Ends) (f : Flow) (s' : Shared) : Prop :=
  match f with
  | .next => ∃ σ' H', Inv X pins σ' H' s' ∧ D.nx σ' H'
  | .brk => ∃ σ' H', Inv X pins σ' H' s' ∧ D.bk σ' H'
  | .cont => ∃ σ' H', Inv X pins σ' H' s' ∧ D.ct σ' H'
  | .ret u => ∃ v σ' H', Inv X pins σ' H' s' ∧ RelV v u ∧ D.rt v H'

def PE (X : Cx) (e : Expr) (t : TE) : Prop :=
  ∀ (pins : List (Addr × Obj)) (s : Shared) (σ : St) (H : Hp) (Q : VK), Inv X pins σ H s → t σ H Q → wpAny (model X.prog X.w) X.A (eval e X.env) (EP X pins σ Q) X.xe s
def PT (X : Cx) (e : Expr) (t : TT) : Prop :=
  ∀ (pins : List (Addr × Obj)) (s : Shared) (σ : St) (H : Hp) (Q : Bool → Hp → Prop), Inv X pins σ H s → t σ H Q → wpAny (model X.prog X.w) X.A (isTrue e X.env (eval e X.env)) (TP X pins σ Q) X.xe s
/-- a test whatever its 'whole' is (and, or) -/
def PW (X : Cx) (e : Expr) (t : TT) : Prop :=
  ∀ (whole : Sem Value) (pins : List (Addr × Obj)) (s : Shared) (σ : St) (H : Hp) (Q : Bool → Hp → Prop), Inv X pins σ H s → t σ H Q → wpAny (model X.prog X.w) X.A (isTrue e X.env whole) (TP X pins σ Q) X.xe s
theorem PW.pt {X : Cx} {e : Expr} {t : TT} (h : PW X e t) : PT X e t := h _
/-- an argument list (no star), from the left -/
def PA (X : Cx) (es : List Expr) (t : TA) : Prop :=
  ∀ (pos : Pos) (pins : List (Addr × Obj)) (s : Shared) (σ : St) (H : Hp) (Q : List V → Hp → Prop), Inv X pins σ H s → t σ H Q → wpAny (model X.prog X.w) X.A (spliced (backTo pos (starEach es X.env))) (AP X pins σ Q) X.xe s
def PS (X : Cx) (st : Stmt) (t : TS) : Prop :=
  ∀ (pins : List (Addr × Obj)) (s : Shared) (σ : St) (H : Hp) (D : Ends), Inv X pins σ H s → t D σ H → wpAny (model X.prog X.w) X.A (exec st X.env) (SP X pins D) X.xe s
def PSs (X : Cx) (st : List Stmt) (t : TS) : Prop :=
  ∀ (pins : List (Addr × Obj)) (s : Shared) (σ : St) (H : Hp) (D : Ends), Inv X pins σ H s → t D σ H → wpAny (model X.prog X.w) X.A (execs st X.env) (SP X pins D) X.xe s
/-- weaken the end -/
theorem thn {α : Type} {t : Sem α} {Q Q' : α → Shared → Prop} {M : Model} {A : Around} {E : Value → Shared → Prop} {s : Shared} (h : wpAny M A t Q E s) (hQ : ∀ a s, Q a s → Q' a s) : wpAny M A t Q' E s := wpAny_mono h hQ fun _ _ x => x
end L2

namespace L2
open PySem PySem.Spec PyProof.Rows
section
variable {X : Cx}


/-! ### names and constants -/
def tVar (i : Nat) : TE := fun σ H Q => ∃ v, σ[i]? = some (some v) ∧ Q v H
def tC (v : V) : TE := fun _ H Q => Q v H
theorem pe_var {i : Nat} {x : Str} {pos : Pos} (hN : X.N[i]? = some x) (hv : Vis X.env.scope x) (hd : (x == ("__debug__" : Str)) = false := by decide) (hcd : (x == ("__classdict__" : Str)) = false := by decide) : PE X (.Name x pos) (tVar i) := by
  intro pins s σ H Q I h
  obtain ⟨v, e, h⟩ := h
  obtain ⟨m, hn, hl⟩ := I.loc
  obtain ⟨u, r, l⟩ := hl i x v hN e hv
  have fin : EP X pins σ Q u s := ⟨v, H, I, r, h⟩
  rcases l with ⟨hk, hm⟩ | ⟨hk, c, hc, hcell⟩
  · exact wpAny_Name (wpAny_loadName_local I.ok.kind hk hn hm fin) hd
  · rcases hk with hk | hk
    · exact wpAny_Name (wpAny_loadName_cell I.ok.kind hk hc hcell fin) hd
    · exact wpAny_Name (wpAny_loadName_free I.ok.kind hk hc hcell fin hcd) hd
theorem pe_int {i j pos} : PE X (.Constant (.int i) j pos) (tC (.int i)) := fun _ _ _ H _ I h => wpAny_Constant_int ⟨.int i, H, I.tok _, ⟨_, rfl⟩, h⟩

/-- a global name of the def -/
def Gl (X : Cx) (x : Str) : Prop := X.env.kindOf x = some .globalImplicit
theorem ld_glob {E : Value → Shared → Prop} {pins : List (Addr × Obj)} {s : Shared} {σ : St} {H : Hp} {x : Str} {u : Value} {pos : Pos} {Q : Value → Shared → Prop} (I : Inv X pins σ H s) (hg : Gl X x) (hm : X.mg x = some u) (h : Q u s)
    (hd : (x == ("__debug__" : Str)) = false := by decide) : wpAny (model X.prog X.w) X.A (eval (.Name x pos) X.env) Q E s :=
  Calls.Name_function_global I.ok.kind hg (Calls.loadGlobal_global (by rw [I.ok.glob]; exact I.mod.glob.keeps I.bk) hm h) hd
theorem ld_blt {E : Value → Shared → Prop} {pins : List (Addr × Obj)} {s : Shared} {σ : St} {H : Hp} {x : Str} {u : Value} {pos : Pos} {Q : Value → Shared → Prop} (I : Inv X pins σ H s) (hg : Gl X x) (hm : X.mg x = none) (hv : bootBuiltins x = some u) (h : Q u s)
    (hn : x ≠ "__name__" := by decide) (hd : (x == ("__debug__" : Str)) = false := by decide) : wpAny (model X.prog X.w) X.A (eval (.Name x pos) X.env) Q E s := by
  obtain ⟨mb, h1, h2⟩ := I.mod.blt
  exact Calls.Name_function_global I.ok.kind hg (Calls.loadGlobal_builtin (by rw [I.ok.glob]; exact I.mod.glob.keeps I.bk) hm (by rw [I.ok.blt]; exact h1.keeps I.bk) ((h2 x hn).trans hv) h) hd
/-- a module's constant, a class, a function, as a value -/
theorem pe_glob {x : Str} {v : V} {u : Value} {pos : Pos} (hg : Gl X x) (hm : X.mg x = some u) (r : RelV v u) (hd : (x == ("__debug__" : Str)) = false := by decide) : PE X (.Name x pos) (tC v) :=
  fun _ _ _ H _ I h => ld_glob I hg hm ⟨v, H, I, r, h⟩ hd

/-! ### arithmetic -/
variable {a b : Expr} {ta tb : TE} {pos : Pos}

/-! ### comparisons -/
/-- a comparison as a value, as a test -/
def tB (t : TE) : TT := fun σ H Q => t σ H fun x H1 => ∃ c, x = .bl c ∧ Q c H1
/-- an expression whose value is a bool, as a test -/
theorem pt_val {e : Expr} {t : TE} (h : PE X e t) (he : ∀ whole, isTrue e X.env whole = (do let v ← whole; standAt e.pos; holding [v] (truthy v)) := by intro _; rfl) : PT X e (tB t) := by
  intro pins s σ H Q I hw
  refine isTrue_plain (thn (h pins s σ H _ I hw) fun v s1 ⟨x, H1, I1, r1, q1⟩ => ?_) (he _)
  obtain ⟨d, rfl, q⟩ := q1
  cases r1
  exact wpAny_truthy_bool ⟨H1, I1, q⟩

/-! ### and, or, not -/
variable {tA tB' : TT} {rest : List Expr}
def tAnd (t u : TT) : TT := fun σ H Q => t σ H fun c H1 => if c = true then u σ H1 Q else Q false H1
def tOr (t u : TT) : TT := fun σ H Q => t σ H fun c H1 => if c = true then Q true H1 else u σ H1 Q
def tNot (t : TT) : TT := fun σ H Q => t σ H fun c H1 => Q (!c) H1
theorem pw_and1 (ha : PT X a tA) : PW X (.BoolOp .And [a] pos) tA := by
  intro wh pins s σ H Q I h
  refine isTrue_and (thn (ha pins s σ H Q I h) fun c s1 e => ?_)
  cases c with
  | true => exact isTrue_and_nil e
  | false => exact e
theorem pw_or1 (ha : PT X a tA) : PW X (.BoolOp .Or [a] pos) tA := by
  intro wh pins s σ H Q I h
  refine isTrue_or (thn (ha pins s σ H Q I h) fun c s1 e => ?_)
  cases c with
  | false => exact isTrue_or_nil e
  | true => exact e
theorem pw_and (ha : PT X a tA) (hb : PW X (.BoolOp .And (b :: rest) pos) tB') : PW X (.BoolOp .And (a :: b :: rest) pos) (tAnd tA tB') := by
  intro wh pins s σ H Q I h
  refine isTrue_and (thn (ha pins s σ H _ I h) fun c s1 ⟨H1, I1, q1⟩ => ?_)
  cases c with
  | true => exact hb wh pins s1 σ H1 Q I1 q1
  | false => exact ⟨H1, I1, q1⟩
theorem pw_or (ha : PT X a tA) (hb : PW X (.BoolOp .Or (b :: rest) pos) tB') : PW X (.BoolOp .Or (a :: b :: rest) pos) (tOr tA tB') := by
  intro wh pins s σ H Q I h
  refine isTrue_or (thn (ha pins s σ H _ I h) fun c s1 ⟨H1, I1, q1⟩ => ?_)
  cases c with
  | true => exact ⟨H1, I1, q1⟩
  | false => exact hb wh pins s1 σ H1 Q I1 q1
theorem pt_not (ha : PT X a tA) : PT X (.UnaryOp .Not a pos) (tNot tA) := by
  intro pins s σ H Q I h
  exact isTrue_not (ha pins s σ H (fun c H1 => Q (!c) H1) I h)
/-- .. as values (bools) -/
def tAndV (ta tb : TE) : TE := fun σ H Q => ta σ H fun x H1 => ∃ c, x = .bl c ∧ if c = true then tb σ H1 Q else Q (.bl false) H1
theorem pe_one {op} {t : TE} (h : PE X a t) : PE X (.BoolOp op [a] pos) t := fun pins s σ H Q I hw => BoolOp_one (h pins s σ H Q I hw)
theorem pe_and (ha : PE X a ta) (hb : PE X (.BoolOp .And (b :: rest) pos) tb) : PE X (.BoolOp .And (a :: b :: rest) pos) (tAndV ta tb) := by
  intro pins s σ H Q I h
  refine BoolOp_and (thn (ha pins s σ H _ I h) fun v s1 ⟨x, H1, I1, r1, q1⟩ => ?_)
  obtain ⟨c, rfl, q1⟩ := q1
  cases r1
  refine wpAny_truthy_bool ?_
  cases c with
  | true => exact hb pins s1 σ H1 Q I1 q1
  | false => exact ⟨.bl false, H1, I1, rfl, q1⟩
/-- a if t else b -/
def tIf (t : TT) (ta tb : TE) : TE := fun σ H Q => t σ H fun c H1 => if c = true then ta σ H1 Q else tb σ H1 Q
theorem pe_ifExp {c : Expr} (hc : PT X c tA) (ha : PE X a ta) (hb : PE X b tb) : PE X (.IfExp c a b pos) (tIf tA ta tb) := by
  intro pins s σ H Q I h
  refine wpAny_IfExp (thn (hc pins s σ H _ I h) fun d s1 ⟨H1, I1, q1⟩ => ?_)
  cases d with
  | true => exact ha pins s1 σ H1 Q I1 q1
  | false => exact hb pins s1 σ H1 Q I1 q1
end
end L2

namespace L2
open PySem PySem.Spec PyProof.Rows

/-! ### a list, a tuple that is read: tracked, frozen, or an object of the module -/
def SqL (K : PySem.W.Frag) (H : Hp) (a : Addr) (xs : List V) : Prop :=
  Rd H a (.lst xs) ∨
    ∃ (o : Obj) (its : Array Value) (n : Nat), K.lookup a = some o ∧ o.cls = .type "list" ∧ o.dict = none ∧ o.data = .seq its n ∧ its.size ≤ sizeLine ∧ Vals xs its.toList
def SqT (K : PySem.W.Frag) (H : Hp) (a : Addr) (xs : List V) : Prop :=
  Rd H a (.tup xs) ∨
    ∃ (o : Obj) (its : Array Value) (n : Nat), K.lookup a = some o ∧ o.cls = .type "tuple" ∧ o.data = .seq its n ∧ its.size ≤ sizeLine ∧ Vals xs its.toList
def absV : Value → Option V
  | .none => some .non
  | .bool b => some (.bl b)
  | .int i _ => some (.int i)
  | .str x _ => some (.str x)
  | .bytes b _ => some (.byt b)
  | .float b _ => some (.flt b)
  | .ref a => some (.ref a)
  | .type n => some (.ty n)
  | _ => none
theorem RelV.abs {x : V} {u : Value} (r : RelV x u) : absV u = some x := by
  cases x with
  | non => cases r; rfl
  | bl _ => cases r; rfl
  | int _ => obtain ⟨t, rfl⟩ := r; rfl
  | str _ => obtain ⟨t, rfl⟩ := r; rfl
  | byt _ => obtain ⟨t, rfl⟩ := r; rfl
  | flt _ => obtain ⟨t, rfl⟩ := r; rfl
  | ref _ => cases r; rfl
  | ty _ => cases r; rfl
theorem RelV.inj {x y : V} {u : Value} (r : RelV x u) (q : RelV y u) : x = y := Option.some.inj (r.abs.symm.trans q.abs)
theorem Vals.inj : ∀ {xs ys : List V} {us : List Value}, Vals xs us → Vals ys us → xs = ys
  | _, _, _, .nil, .nil => rfl
  | _, _, _, .cons r t, .cons r' t' => by rw [r.inj r', Vals.inj t t']
section
variable {X : Cx} {pins : List (Addr × Obj)} {σ : St} {H : Hp} {s : Shared} {a : Addr} {xs ys : List V}
theorem SqL.of {K : PySem.W.Frag} (h : H a = some (.lst xs)) : SqL K H a xs := .inl (.inl h)
theorem SqT.of {K : PySem.W.Frag} (h : H a = some (.tup xs)) : SqT K H a xs := .inl (.inl h)
theorem Inv.list (I : Inv X pins σ H s) (h : SqL X.K H a xs) : ∃ its : List Value, Vals xs its ∧ PlainL s.heap a its.toArray ∧ xs.length ≤ sizeLine := by
  rcases h with h | ⟨o, its, n, hk, hc, hd, hs, hz, r⟩
  · obtain ⟨z, its, n, r, e⟩ := h.ok I.hok
    exact ⟨its, r, ⟨_, n, e, rfl, rfl, rfl⟩, z⟩
  · refine ⟨its.toList, r, ⟨o, n, I.kIn a o hk, hc, hd, by simpa using hs⟩, ?_⟩
    have e := r.length
    simp only [Array.length_toList] at e
    omega
theorem Inv.tuple (I : Inv X pins σ H s) (h : SqT X.K H a xs) : ∃ its : List Value, Vals xs its ∧ IsTup s.heap a its.toArray ∧ xs.length ≤ sizeLine := by
  rcases h with h | ⟨o, its, n, hk, hc, hs, hz, r⟩
  · obtain ⟨z, its, r, p⟩ := h.ok I.hok
    exact ⟨its, r, p, z⟩
  · refine ⟨its.toList, r, ⟨o, I.kIn a o hk, hc, n, by simpa using hs⟩, ?_⟩
    have e := r.length
    simp only [Array.length_toList] at e
    omega
theorem Inv.list_inj (I : Inv X pins σ H s) (h : SqL X.K H a xs) (h' : SqL X.K H a ys) : xs = ys := by
  obtain ⟨its, r, ⟨o, n, e, _, _, d⟩, _⟩ := I.list h
  obtain ⟨its', r', ⟨o', n', e', _, _, d'⟩, _⟩ := I.list h'
  rw [e] at e'; cases e'
  rw [d] at d'
  injection d' with d1 _
  have : its = its' := by simpa using congrArg Array.toList d1
  subst this
  exact r.inj r'
end

/-! ### another wish about exceptions -/
abbrev Cx.wish (X : Cx) (E : Value → Shared → Prop) : Cx := { X with xe := E }
/-- no exception leaves -/
abbrev Cx.nox (X : Cx) : Cx := X.wish fun _ _ => False
theorem Cx.Ok.wish {X : Cx} (ok : X.Ok) (E : Value → Shared → Prop) : (X.wish E).Ok :=
  ⟨ok.mod, ok.kind, ok.glob, ok.blt, ok.above, ok.inj, ok.has, ok.cab, ok.hd, ok.frames, ok.stk, ok.exf, ok.bs, ok.bsz, ok.noex, ok.exfs, ok.funs, ok.frf⟩
theorem Cx.Ok.unwish {X : Cx} {E : Value → Shared → Prop} (ok : (X.wish E).Ok) : X.Ok :=
  ⟨ok.mod, ok.kind, ok.glob, ok.blt, ok.above, ok.inj, ok.has, ok.cab, ok.hd, ok.frames, ok.stk, ok.exf, ok.bs, ok.bsz, ok.noex, ok.exfs, ok.funs, ok.frf⟩
section
variable {X : Cx} {pins : List (Addr × Obj)} {σ : St} {H : Hp} {s : Shared} {E : Value → Shared → Prop}
theorem Inv.wish (I : Inv X pins σ H s) (E : Value → Shared → Prop) : Inv (X.wish E) pins σ H s := ⟨I.ok.wish E, I.os, I.bare, I.base, I.loc, I.cell, I.free, I.freeC, I.pin, I.hok, I.len⟩
theorem Inv.unwish (I : Inv (X.wish E) pins σ H s) : Inv X pins σ H s := ⟨I.ok.unwish, I.os, I.bare, I.base, I.loc, I.cell, I.free, I.freeC, I.pin, I.hok, I.len⟩
theorem SP.unwish {D : Ends} {f : Flow} {s' : Shared} (h : SP (X.wish E) pins D f s') : SP X pins D f s' := by
  cases f with
  | next => obtain ⟨σ', H', I, q⟩ := h; exact ⟨σ', H', I.unwish, q⟩
  | brk => obtain ⟨σ', H', I, q⟩ := h; exact ⟨σ', H', I.unwish, q⟩
  | cont => obtain ⟨σ', H', I, q⟩ := h; exact ⟨σ', H', I.unwish, q⟩
  | ret u => obtain ⟨v, σ', H', I, r, q⟩ := h; exact ⟨v, σ', H', I.unwish, r, q⟩
theorem PSs.nox {st : List Stmt} {t : TS} (h : PSs X.nox st t) : PSs X st t := fun pins s σ H D I hw =>
  wpAny_mono (h pins s σ H D (I.wish _) hw) (fun _ _ q => q.unwish) fun _ _ z => False.elim z
end

/-! ### blocks and small statements -/
section
variable {X : Cx} {st : Stmt} {rest : List Stmt} {t u : TS} {e : Expr} {te : TE} {pos : Pos}
def tNext : TS := fun D σ H => D.nx σ H
def tSeq (t u : TS) : TS := fun D σ H => t { D with nx := u D } σ H
theorem pss_nil : PSs X [] tNext := fun _ _ σ H _ I h => wpAny_execs_nil ⟨σ, H, I, h⟩
theorem pss_cons (h1 : PS X st t) (h2 : PSs X rest u) : PSs X (st :: rest) (tSeq t u) := by
  intro pins s σ H D I h
  refine wpAny_execs_cons (thn (h1 pins s σ H { D with nx := u D } I h) fun f s1 q => ?_)
  cases f with
  | next =>
    obtain ⟨σ', H', I', q⟩ := q
    exact h2 pins s1 σ' H' D I' q
  | ret v => exact q
  | brk => exact q
  | cont => exact q
theorem pss_one (h1 : PS X st t) : PSs X [st] t := by
  intro pins s σ H D I h
  refine wpAny_execs_cons (thn (h1 pins s σ H D I h) fun f s1 q => ?_)
  cases f with
  | next => exact wpAny_execs_nil q
  | ret v => exact q
  | brk => exact q
  | cont => exact q
/-- in a def's body nothing is shown -/
theorem Inv.quiet {pins : List (Addr × Obj)} {σ : St} {H : Hp} {s : Shared} (I : Inv X pins σ H s) : interactive X.env = false := by simp [interactive, I.ok.kind]
/-- an expression whose value is dropped -/
def tDrop (te : TE) : TS := fun D σ H => te σ H fun _ H1 => D.nx σ H1
theorem ps_expr (he : PE X e te) (hs : swapsWith e none pos.line X.env = pure false := by rfl) : PS X (.Expr e pos) (tDrop te) := by
  intro pins s σ H D I h
  exact wpAny_Expr_any (thn (he pins s σ H _ I h) fun v s1 ⟨x, H1, I1, r1, q1⟩ => ⟨σ, H1, I1, q1⟩) I.quiet hs
def tRet (te : TE) : TS := fun D σ H => te σ H D.rt
theorem ps_ret (he : PE X e te) : PS X (.Return (some e) pos) (tRet te) := by
  intro pins s σ H D I h
  exact wpAny_Return_some (thn (he pins s σ H _ I h) fun v s1 ⟨x, H1, I1, r1, q1⟩ => ⟨x, σ, H1, I1, r1, q1⟩)
def tIfS (c : TT) (t u : TS) : TS := fun D σ H => c σ H fun b H1 => if b = true then t D σ H1 else u D σ H1
theorem ps_if {c : Expr} {a b : List Stmt} {tc : TT} (hc : PT X c tc) (ha : PSs X a t) (hb : PSs X b u) : PS X (.If c a b pos) (tIfS tc t u) := by
  intro pins s σ H D I h
  refine wpAny_If (thn (hc pins s σ H _ I h) fun d s1 ⟨H1, I1, q1⟩ => ?_)
  cases d with
  | true => exact ha pins s1 σ H1 D I1 q1
  | false => exact hb pins s1 σ H1 D I1 q1
end

/-! ### targets -/
abbrev TG := V → St → Hp → (St → Hp → Prop) → Prop
abbrev TGs := List V → St → Hp → (St → Hp → Prop) → Prop
def PG (X : Cx) (target : Expr) (t : TG) : Prop :=
  ∀ (pins : List (Addr × Obj)) (s : Shared) (σ : St) (H : Hp) (v : V) (u : Value) (Q : St → Hp → Prop), Inv X pins σ H s → RelV v u → t v σ H Q →
    wpAny (model X.prog X.w) X.A (assign target X.env u) (fun _ s' => ∃ σ' H', Inv X pins σ' H' s' ∧ Q σ' H') X.xe s
/-- several targets, one after another -/
def PGs (X : Cx) (ts : List Expr) (t : TGs) : Prop :=
  ∀ (pins : List (Addr × Obj)) (s : Shared) (σ : St) (H : Hp) (vs : List V) (us : List Value) (Q : St → Hp → Prop), Inv X pins σ H s → Vals vs us → t vs σ H Q →
    wpAny (model X.prog X.w) X.A (assignInOrder ((assignEach ts X.env).map (·.2)) us) (fun _ s' => ∃ σ' H', Inv X pins σ' H' s' ∧ Q σ' H') X.xe s
/-- o[i] = v, by values -/
abbrev TSet := V → V → V → Hp → (Hp → Prop) → Prop
def PSet (X : Cx) (t : TSet) : Prop :=
  ∀ (pins : List (Addr × Obj)) (s : Shared) (σ : St) (H : Hp) (o i v : V) (ov iv u : Value) (Q : Hp → Prop), Inv X pins σ H s → RelV o ov → RelV i iv → RelV v u → t o i v H Q →
    wpAny (model X.prog X.w) X.A (setItem ov iv u) (fun _ s' => ∃ H', Inv X pins σ H' s' ∧ Q H') X.xe s
/-- a op= b, by values -/
abbrev TIp := V → V → Hp → VK → Prop
def PIp (X : Cx) (op : Operator) (t : TIp) : Prop :=
  ∀ (pins : List (Addr × Obj)) (s : Shared) (σ : St) (H : Hp) (x y : V) (v u : Value) (Q : VK), Inv X pins σ H s → RelV x v → RelV y u → t x y H Q →
    wpAny (model X.prog X.w) X.A (inplaceOp op v u) (EP X pins σ Q) X.xe s
section
variable {X : Cx} {pos : Pos}
def gName (i : Nat) : TG := fun v σ H Q => Q (σ.set i (some v)) H
theorem pg_name {i : Nat} {x : Str} (hN : X.N.Nodup) (hi : X.N[i]? = some x) (hx : Loc X.env.scope x) (hf : X.fn x = true ∨ X.env.scope.names.lookup x = some .local := by first | exact .inl rfl | exact .inr rfl | assumption) : PG X (.Name x pos) (gName i) := by
  intro pins s σ H v u Q I r h
  exact wpAny_assign_Name (store_ok I hN hi hx r (fun s' I' => ⟨_, H, I', h⟩) hf)
def gNil : TGs := fun vs σ H Q => vs = [] ∧ Q σ H
def gCons (t : TG) (u : TGs) : TGs := fun vs σ H Q => ∃ v r, vs = v :: r ∧ t v σ H fun σ' H' => u r σ' H' Q
theorem pgs_nil : PGs X [] gNil := by
  intro pins s σ H vs us Q I r h
  obtain ⟨e, h⟩ := h
  subst e
  cases r
  exact assignInOrder_nil ⟨σ, H, I, h⟩
theorem pgs_cons {e : Expr} {es : List Expr} {t : TG} {u : TGs} (h1 : PG X e t) (h2 : PGs X es u)
    (hs : (assignEach (e :: es) X.env).map (·.2) = assign e X.env :: (assignEach es X.env).map (·.2) := by rfl) : PGs X (e :: es) (gCons t u) := by
  intro pins s σ H vs us Q I r h
  obtain ⟨v, vr, e1, h⟩ := h
  subst e1
  cases r with
  | cons r rr =>
    rw [hs]
    refine assignInOrder_cons (thn (h1 pins s σ H _ _ _ I r h) fun _ s1 ⟨σ1, H1, I1, q1⟩ => ?_)
    exact h2 pins s1 σ1 H1 _ _ Q I1 rr q1
/-- (a, b, ..) = a tuple of that length -/
def gTup (K : PySem.W.Frag) (n : Nat) (t : TGs) : TG := fun v σ H Q => ∃ a xs, v = .ref a ∧ SqT K H a xs ∧ xs.length = n ∧ t xs σ H Q
theorem pg_tup {es : List Expr} {k : Nat} {t : TGs} {n : Nat} (hc : X.calm = true) (h : PGs X es t)
    (hn : (assignEach es X.env).length = n := by rfl) (hst : (assignEach es X.env).findIdx? (·.1) = none := by rfl) : PG X (.Tuple es k pos) (gTup X.K n t) := by
  intro pins s σ H v u Q I r hw
  obtain ⟨a, xs, e1, hq, hl, hw⟩ := hw
  subst e1
  cases r
  obtain ⟨its, rv, ht, hz⟩ := I.tuple hq
  refine assign_Tuple_tuple (I.ok.hd hc) ht (by simp [hn, ← hl, rv.length]) hst fun h' hx => ?_
  have I1 : Inv X pins σ H { s with heap := h' } := I.kept (t' := s.toks) fun b o e => hx b o (Nat.ne_of_lt (Heap.lt_size e)) e
  exact h pins _ σ H xs _ Q I1 (by simpa using rv) hw
/-- target = value -/
def tAsg (te : TE) (g : TG) : TS := fun D σ H => te σ H fun x H1 => g x σ H1 D.nx
/-- name = value -/
theorem ps_set {i : Nat} {x : Str} {e : Expr} {te : TE} {pos' : Pos} (hN : X.N.Nodup) (hi : X.N[i]? = some x) (hx : Loc X.env.scope x) (he : PE X e te) (hs : swapsWith e (some (.Name x pos')) pos.line X.env = pure false := by rfl) (hf : X.fn x = true ∨ X.env.scope.names.lookup x = some .local := by first | exact .inl rfl | exact .inr rfl | assumption) :
    PS X (.Assign [.Name x pos'] e pos) (tAsg te (gName i)) := by
  intro pins s σ H D I h
  refine wpAny_Assign_Name (thn (he pins s σ H _ I h) fun v s1 ⟨y, H1, I1, r1, q1⟩ => ?_) hs
  exact store_ok I1 hN hi hx r1 (fun s2 I2 => ⟨_, H1, I2, q1⟩) hf
/-- name op= e -/
def tAug (i : Nat) (te : TE) (ti : TIp) : TS := fun D σ H => ∃ x, σ[i]? = some (some x) ∧ te σ H fun y H1 => ti x y H1 fun z H2 => D.nx (σ.set i (some z)) H2
theorem ps_aug {i : Nat} {x : Str} {e : Expr} {te : TE} {op : Operator} {ti : TIp} {pos' : Pos} (hN : X.N.Nodup) (hi : X.N[i]? = some x) (hx : Loc X.env.scope x) (he : PE X e te) (ho : PIp X op ti) (hf : X.fn x = true ∨ X.env.scope.names.lookup x = some .local := by first | exact .inl rfl | exact .inr rfl | assumption) :
    PS X (.AugAssign (.Name x pos') op e pos) (tAug i te ti) := by
  intro pins s σ H D I h
  obtain ⟨v, e1, h⟩ := h
  obtain ⟨m, hn, hl⟩ := I.loc
  have vis : Vis X.env.scope x := by rcases hx with k | k; exact .inl k; exact .inr (.inl k)
  obtain ⟨u, r, l⟩ := hl i x v hi e1 vis
  refine wpAny_AugAssign_Name ?_
  have go : wpAny (model X.prog X.w) X.A (eval e X.env) (fun w s₂ => wpAny (model X.prog X.w) X.A (inplaceOp op u w) (fun r s₃ => wpAny (model X.prog X.w) X.A (storeName X.env x r) (fun _ => SP X pins D .next) X.xe s₃) X.xe s₂) X.xe s := by
    refine thn (he pins s σ H _ I h) fun w s1 ⟨y, H1, I1, r1, q1⟩ => ?_
    refine thn (ho pins s1 σ H1 v y u w _ I1 r r1 q1) fun z s2 ⟨zv, H2, I2, r2, q2⟩ => ?_
    exact store_ok I2 hN hi hx r2 (fun s3 I3 => ⟨_, H2, I3, q2⟩) hf
  rcases l with ⟨hk, hm⟩ | ⟨hk, c, hc, hcell⟩
  · exact wpAny_loadName_local I.ok.kind hk hn hm go
  · rcases hk with hk | hk
    · exact wpAny_loadName_cell I.ok.kind hk hc hcell go
    · rcases hx with k | k
      · have : X.env.scope.names.lookup x = some .free := hk
        rw [k] at this; cases this
      · have : X.env.scope.names.lookup x = some .free := hk
        rw [k] at this; cases this
/-- o[i] op= e -/
def tAugS (to ti te : TE) (tget : V → V → Hp → VK → Prop) (tip : TIp) (tset : TSet) : TS := fun D σ H => to σ H fun o H1 => ti σ H1 fun i H2 => tget o i H2 fun x H3 => te σ H3 fun y H4 => tip x y H4 fun z H5 => tset o i z H5 fun H6 => D.nx σ H6
/-- o[i], by values -/
def PGet (X : Cx) (t : V → V → Hp → VK → Prop) : Prop :=
  ∀ (pins : List (Addr × Obj)) (s : Shared) (σ : St) (H : Hp) (o i : V) (ov iv : Value) (Q : VK), Inv X pins σ H s → RelV o ov → RelV i iv → t o i H Q →
    wpAny (model X.prog X.w) X.A (getItem ov iv) (EP X pins σ Q) X.xe s
theorem ps_augS {o i e : Expr} {to ti te : TE} {tget : V → V → Hp → VK → Prop} {tip : TIp} {tset : TSet} {op : Operator} {tpos : Pos} (ho : PE X o to) (hi : PE X i ti) (hg : PGet X tget) (he : PE X e te) (hp : PIp X op tip) (hs : PSet X tset)
    (ha : ∀ ov iv new, augStore i ov iv new = (do holding [new, ov, iv] (setItem ov iv new); release [new, ov, iv] []; pure .next) := by intros; rfl) : PS X (.AugAssign (.Subscript o i tpos) op e pos) (tAugS to ti te tget tip tset) := by
  intro pins s σ H D I h
  refine wpAny_AugAssign_SubscriptAny (thn (ho pins s σ H _ I h) fun ov s1 ⟨x1, H1, I1, r1, q1⟩ => ?_) ha
  refine thn (hi pins s1 σ H1 _ I1 q1) fun iv s2 ⟨x2, H2, I2, r2, q2⟩ => ?_
  refine thn (hg pins s2 σ H2 x1 x2 ov iv _ I2 r1 r2 q2) fun old s3 ⟨x3, H3, I3, r3, q3⟩ => ?_
  refine thn (he pins s3 σ H3 _ I3 q3) fun v s4 ⟨x4, H4, I4, r4, q4⟩ => ?_
  refine thn (hp pins s4 σ H4 x3 x4 old v _ I4 r3 r4 q4) fun new s5 ⟨x5, H5, I5, r5, q5⟩ => ?_
  exact thn (hs pins s5 σ H5 x1 x2 x5 ov iv new _ I5 r1 r2 r5 q5) fun _ s6 ⟨H6, I6, q6⟩ => ⟨σ, H6, I6, q6⟩
/-- ints -/
def ipI (f : Int → Int → Int) : TIp := fun x y H Q => ∃ i j, x = .int i ∧ y = .int j ∧ Q (.int (f i j)) H
theorem ip_add : PIp X .Add (ipI fun i j => i + j) := by
  intro pins s σ H x y v u Q I r1 r2 h
  obtain ⟨i, j, e1, e2, q⟩ := h
  subst e1; subst e2
  obtain ⟨t, rfl⟩ := r1
  obtain ⟨t', rfl⟩ := r2
  exact iadd_int ⟨.int _, H, I.tok _, ⟨_, rfl⟩, q⟩
end

/-! ### while -/
section
variable {X : Cx} {pos : Pos}
/-- the invariant W with its measure -/
def tWhile (c : TT) (tb : TS) : TS := fun D σ H => ∃ W : Nat → St → Hp → Prop, (∃ m, W m σ H) ∧ ∀ m σ H, W m σ H →
  c σ H fun b H1 => if b = true then ∃ N : St → Hp → Prop, (∀ σ' H', N σ' H' → ∃ m', m' < m ∧ W m' σ' H') ∧ tb { D with nx := N, ct := N, bk := D.nx } σ H1 else D.nx σ H1
theorem ps_while {c : Expr} {body : List Stmt} {tc : TT} {tb : TS} (hp : PassesOwn (model X.prog X.w) X.A X.env X.xe) (hc : PT X c tc) (hb : PSs X body tb) : PS X (.While c body [] pos) (tWhile tc tb) := by
  intro pins s σ H D I h
  obtain ⟨W, ⟨m0, w0⟩, turn⟩ := h
  refine wpAny_While (codeAny_whileLoop (fun n s' => ∃ σ' H', Inv X pins σ' H' s' ∧ W n σ' H') ?_ m0 ⟨σ, H, I, w0⟩)
  rintro n s1 ⟨σ1, H1, I1, w1⟩
  refine wpAny_passesOwn hp (thn (hc pins s1 σ1 H1 _ I1 (turn n σ1 H1 w1)) fun b s2 ⟨H2, I2, q2⟩ => ?_)
  cases b with
  | true =>
    obtain ⟨N, hN, q2⟩ := q2
    rw [if_pos rfl]
    refine wpAny_passesOwn hp (thn (hb pins s2 σ1 H2 _ I2 q2) fun f s3 q3 => ?_)
    cases f with
    | next =>
      obtain ⟨σ3, H3, I3, n3⟩ := q3
      obtain ⟨m', hm, w3⟩ := hN σ3 H3 n3
      exact ⟨m', hm, σ3, H3, I3, w3⟩
    | cont =>
      obtain ⟨σ3, H3, I3, n3⟩ := q3
      obtain ⟨m', hm, w3⟩ := hN σ3 H3 n3
      exact ⟨m', hm, σ3, H3, I3, w3⟩
    | brk => exact q3
    | ret v => exact q3
  | false =>
    rw [if_neg Bool.false_ne_true]
    exact wpAny_execs_nil ⟨σ1, H2, I2, q2⟩
end

/-! ### what a loop or a comprehension walks -/
/-- at turn i: it yields x (the heap may grow), or it stops -/
structure It where
  go : Nat → Hp → Prop
  yld : Nat → Hp → V → Hp → Prop
  stop : Nat → Hp → Prop
/-- the iterator's own objects may turn: they are not the frame's, not pinned, younger than the entry (or a comprehension's own) -/
def FpOk (X : Cx) (pins : List (Addr × Obj)) (H : Hp) (b : Addr) : Prop :=
  H b = none ∧ b ≠ X.env.locals ∧ b ∉ X.fs ∧ (b ∈ X.ex ∨ X.s_0.heap.objs.size ≤ b) ∧ (∀ x c, X.env.cells.lookup x = some c → c ≠ b) ∧ ∀ p ∈ X.pn ++ pins, p.1 ≠ b
theorem Inv.fpOk {X : Cx} {pins : List (Addr × Obj)} {σ : St} {H H' : Hp} {s : Shared} {b : Addr} (I : Inv X pins σ H s) (hb : s.heap.objs.size ≤ b) (hn : H' b = none) : FpOk X pins H' b := by
  refine ⟨hn, Nat.ne_of_gt (Nat.lt_of_lt_of_le I.lt hb), I.nofs hb, .inr (Nat.le_trans I.sz hb), fun x c e z => ?_, fun p hp z => ?_⟩
  · obtain ⟨v, q⟩ := I.cell x c e
    exact absurd (Nat.lt_of_lt_of_le q.lt (by rw [z]; exact hb)) (Nat.lt_irrefl _)
  · exact absurd (Nat.lt_of_lt_of_le (Heap.lt_size (I.pin p hp).1) (by rw [z]; exact hb)) (Nat.lt_irrefl _)
structure Turn (P : Program) (w : World) (K : PySem.W.Frag) (tg : Expr) (J : It) (fp : List Addr) (it : Addr) (tn : Nat → Heap → Prop) : Prop where
  mem : it ∈ fp
  obj : ∀ i h, tn i h → ∀ b ∈ fp, ∃ o, h.get? b = some o ∧ ∀ v, o.data ≠ .cell v
  keep : ∀ i h h', tn i h → (∀ b ∈ fp, ∀ o, h.get? b = some o → h'.get? b = some o) → tn i h'
  item : ∀ (X : Cx), X.prog = P → X.w = w → X.K = K → X.calm = true → ∀ (i : Nat) (pins : List (Addr × Obj)) (s : Shared) (σ : St) (H : Hp) (E : Value → Shared → Prop), Inv X pins σ H s → (∀ b ∈ fp, FpOk X pins H b) → tn i s.heap → J.go i H →
    wpAny (model P w) X.A (pyNext (.ref it)) (fun r s1 => ∃ u, r = some u ∧
      wpAny (model P w) X.A (letOwnedTupleGo tg (.ref it) u) (fun _ s2 => ∃ x H', Inv X pins σ H' s2 ∧ RelV x u ∧ J.yld i H x H' ∧ tn (i + 1) s2.heap ∧ ∀ b ∈ fp, H' b = none) E s1) E s
  done : ∀ (X : Cx), X.prog = P → X.w = w → X.K = K → X.calm = true → ∀ (i : Nat) (pins : List (Addr × Obj)) (s : Shared) (σ : St) (H : Hp) (E : Value → Shared → Prop), Inv X pins σ H s → (∀ b ∈ fp, FpOk X pins H b) → tn i s.heap → J.stop i H →
    wpAny (model P w) X.A (pyNext (.ref it)) (fun r s1 => r = none ∧ Inv X pins σ H s1) E s
  self : ∀ (A : Around) (i : Nat) (s : Shared) (Q : Value → Shared → Prop) (E : Value → Shared → Prop), tn i s.heap → Q (.ref it) s → wpAny (model P w) A (pyIter (.ref it)) Q E s
abbrev TI := St → Hp → (It → Hp → Prop) → Prop
/-- an iterator has come -/
def PIE (X : Cx) (pins : List (Addr × Obj)) (σ : St) (tg : Expr) (R : It → Hp → Prop) (itv : Value) (s2 : Shared) : Prop :=
  ∃ (it : Addr) (fp : List Addr) (tn : Nat → Heap → Prop) (J : It) (H' : Hp), itv = .ref it ∧ Inv X pins σ H' s2 ∧ Turn X.prog X.w X.K tg J fp it tn ∧ tn 0 s2.heap ∧ (∀ b ∈ fp, FpOk X pins H' b) ∧ R J H'
def PI (X : Cx) (tg iter : Expr) (wi : TI) : Prop :=
  ∀ (pins : List (Addr × Obj)) (s : Shared) (σ : St) (H : Hp) (R : It → Hp → Prop), Inv X pins σ H s → wi σ H R →
    wpAny (model X.prog X.w) X.A (eval iter X.env) (fun v s1 => wpAny (model X.prog X.w) X.A (pyIter v) (PIE X pins σ tg R) X.xe s1) X.xe s

/-- the step ahead of the store is nothing for an iterator that keeps no tuple -/
theorem go_of {M : Model} {A : Around} {E : Value → Shared → Prop} {s : Shared} {tg : Expr} {it : Addr} {u : Value} {o : Obj} {n : String} {vs : Array Value} {Q : Unit → Shared → Prop} (ho : s.heap.get? it = some o) (hc : o.cls = .type n) (hd : o.data = .fields vs)
    (hn : ["enumerate", "zip", "dict_itemiterator", "dict_reverseitemiterator", "odict_iterator", "itertools.zip_longest", "itertools.pairwise"].contains n = false) (hQ : Q () s) : wpAny M A (letOwnedTupleGo tg (.ref it) u) Q E s := by
  unfold letOwnedTupleGo
  cases tg <;> first
    | exact wpAny_pure hQ
    | (cases u <;> first
        | exact wpAny_pure hQ
        | (refine wpAny_bind (wpAny_load ho ?_)
           rw [hc, hd]
           show wpAny M A (if (["enumerate", "zip", "dict_itemiterator", "dict_reverseitemiterator", "odict_iterator", "itertools.zip_longest", "itertools.pairwise"].contains n && vs[0]? == some (rawInt _)) = true then _ else _) Q E s
           rw [if_neg (by intro h; rw [hn, Bool.false_and] at h; cases h)]
           exact wpAny_pure hQ))

/-- the list at a, as it stands at each turn (a loop may append to it) -/
def Itl (K : PySem.W.Frag) (a : Addr) : It :=
  ⟨fun i H => ∃ xs x, SqL K H a xs ∧ xs[i]? = some x, fun i H x H' => H' = H ∧ ∀ xs, SqL K H a xs → xs[i]? = some x, fun i H => ∃ xs, SqL K H a xs ∧ xs.length ≤ i⟩
/-- lo, lo + 1, .. (n of them) -/
def Itr (lo : Int) (n : Nat) : It := ⟨fun i _ => i < n, fun i H x H' => H' = H ∧ x = .int (lo + i), fun i _ => n ≤ i⟩
theorem turn_list {P : Program} {w : World} {K : PySem.W.Frag} {tg : Expr} (a it : Addr) : Turn P w K tg (Itl K a) [it] it (fun i h => h.IsListIter it a i) where
  mem := by simp
  obj := fun i h st b hb => by
    have e : b = it := by simpa using hb
    subst e
    obtain ⟨o, e, c, d⟩ := st
    exact ⟨o, e, fun v z => by rw [d] at z; cases z⟩
  keep := fun i h h' st k => st.at fun o e => k it (by simp) o e
  item := by
    intro X hP hw hK hc i pins s σ H E I hf st hg
    subst hP hw hK
    obtain ⟨xs, x, hq, hx⟩ := hg
    obtain ⟨its, rv, p, hz⟩ := I.list hq
    obtain ⟨u, hu, ru⟩ := rv.get hx
    obtain ⟨f0, f1, f2, f3, f4, f5⟩ := hf it (by simp)
    refine wpAny_pyNext_list_item st p.isList (x := u) (by simpa using hu) fun h' st' sb => ?_
    have I1 : Inv X pins σ H { s with heap := h' } := I.turned (t' := s.toks) (fun b o hb e => (sb.2 b hb).trans e) f0 f1 f3 f4 f5
    obtain ⟨o, e, c, d⟩ := id st'
    exact ⟨u, rfl, go_of (s := { s with heap := h' }) e c d (by decide) ⟨x, H, I1, ru, ⟨rfl, fun ys hy => by rw [I.list_inj hy hq]; exact hx⟩, st', fun b hb => (hf b hb).1⟩⟩
  done := by
    intro X hP hw hK hc i pins s σ H E I hf st hg
    subst hP hw hK
    obtain ⟨xs, hq, hx⟩ := hg
    obtain ⟨its, rv, p, hz⟩ := I.list hq
    obtain ⟨f0, f1, f2, f3, f4, f5⟩ := hf it (by simp)
    have hl := rv.length
    exact wpAny_pyNext_list_end (I.ok.hd hc) st p.isList (by simp; omega) fun h' eb => ⟨rfl, I.turned (t' := s.toks) (fun b o hb e => eb b o hb e) f0 f1 f3 f4 f5⟩
  self := fun _ _ _ _ _ st h => wpAny_pyIter_listiter st h
theorem turn_range {P : Program} {w : World} {K : PySem.W.Frag} {tg : Expr} (it : Addr) (lo : Int) (n : Nat) : Turn P w K tg (Itr lo n) [it] it (fun i h => IsRangeIter h it (lo + (i : Nat) * 1) ((n : Int) - (i : Nat)) 1) where
  mem := by simp
  obj := fun i h st b hb => by
    have e : b = it := by simpa using hb
    subst e
    exact ⟨_, st, fun v z => by
      have z' : Data.fields _ = Data.cell v := z
      cases z'⟩
  keep := fun i h h' st k => k it (by simp) _ st
  item := by
    intro X hP hw hK hc i pins s σ H E I hf st hg
    subst hP hw hK
    obtain ⟨f0, f1, f2, f3, f4, f5⟩ := hf it (by simp)
    have W := Walks.range (prog := X.prog) (w := X.w) (I.ok.hd hc) it lo 1 n
    refine W.item i s _ _ hg st fun v h' tk hv st' kk => ?_
    obtain ⟨t, rfl⟩ := hv
    have I1 : Inv X pins σ H { s with heap := h', toks := tk } := I.turned (fun b o hb e => kk b o (by simpa using hb) e) f0 f1 f3 f4 f5
    refine ⟨_, rfl, go_of (s := { s with heap := h', toks := tk }) (n := "range_iterator") st' rfl rfl (by decide) ⟨.int (lo + i), H, I1, ⟨t, ?_⟩, ⟨rfl, rfl⟩, st', fun b hb => (hf b hb).1⟩⟩
    rw [Int.mul_one]
  done := by
    intro X hP hw hK hc i pins s σ H E I hf st hg
    subst hP hw hK
    obtain ⟨f0, f1, f2, f3, f4, f5⟩ := hf it (by simp)
    exact wpAny_pyNext_range_end (I.ok.hd hc) st (by have : n ≤ i := hg; omega) fun h' eb => ⟨rfl, I.turned (t' := s.toks) (fun b o hb e => eb b o hb e) f0 f1 f3 f4 f5⟩
  self := fun _ _ _ _ _ st h => wpAny_pyIter_rangeiter st h
end L2

namespace L2
open PySem PySem.Spec PyProof.Rows
section
variable {X : Cx} {tg : Expr}
def iList (K : PySem.W.Frag) (tl : TE) : TI := fun σ H R => tl σ H fun x H1 => ∃ a, x = .ref a ∧ (∃ xs, SqL K H1 a xs) ∧ R (Itl K a) H1
theorem pi_list {l : Expr} {tl : TE} (hl : PE X l tl) : PI X tg l (iList X.K tl) := by
  intro pins s σ H R I h
  refine thn (hl pins s σ H _ I h) fun v s1 ⟨x, H1, I1, r1, q1⟩ => ?_
  obtain ⟨a, e, ⟨xs, hq⟩, q⟩ := q1
  subst e
  cases r1
  obtain ⟨its, rv, p, hz⟩ := I1.list hq
  refine wpAny_pyIter_list p.isList ?_
  refine ⟨s1.heap.objs.size, [s1.heap.objs.size], _, _, H1, rfl, I1.kept (t' := s1.toks) fun b o e => Heap.get?_push_of_some _ e, turn_list a _, ⟨_, Heap.get?_push_size _ rfl, rfl, rfl⟩, fun b hb => ?_, q⟩
  have e : b = s1.heap.objs.size := by simpa using hb
  subst e
  exact I1.fpOk (Nat.le_refl _) (I1.hok.fresh (Nat.le_refl _))
/-- a range object just made, walked -/
theorem range_it {pins : List (Addr × Obj)} {σ : St} {H : Hp} {s : Shared} {R : It → Hp → Prop} {E : Value → Shared → Prop} {lo hi : Int} {t u v : Tok} {tk : Nat} (I : Inv X pins σ H s) (h1 : -(2 ^ 62) ≤ lo) (h2 : lo < 2 ^ 62) (h3 : -(2 ^ 62) ≤ hi) (h4 : hi < 2 ^ 62)
    (q : R (Itr lo (hi - lo).toNat) H) : wpAny (model X.prog X.w) X.A (pyIter (.ref s.heap.objs.size)) (PIE X pins σ tg R) E { s with heap := s.heap.push { cls := .type "range", data := .fields #[.int lo t, .int hi u, .int 1 v] }, toks := tk } := by
  refine wpAny_pyIter_range (IsRange.new ..) (small_one h1 h2 h3 h4) ?_
  have I1 : Inv X pins σ H { s with heap := s.heap.push { cls := .type "range", data := .fields #[.int lo t, .int hi u, .int 1 v] }, toks := tk } := I.kept fun b o e => Heap.get?_push_of_some _ e
  refine ⟨(s.heap.push { cls := .type "range", data := .fields #[.int lo t, .int hi u, .int 1 v] }).objs.size, [(s.heap.push { cls := .type "range", data := .fields #[.int lo t, .int hi u, .int 1 v] }).objs.size], _, _, H, rfl,
    I1.kept (t' := tk) fun b o e => Heap.get?_push_of_some _ e, turn_range _ lo (hi - lo).toNat, ?_, fun b hb => ?_, q⟩
  · have e1 : lo + ((0 : Nat) : Int) * 1 = lo := by simp
    have e2 : (((hi - lo).toNat : Nat) : Int) - ((0 : Nat) : Int) = Builtin.Range.rangeSize lo hi 1 := by rw [rangeSize_one]; split <;> omega
    show IsRangeIter _ _ (lo + ((0 : Nat) : Int) * 1) ((((hi - lo).toNat : Nat) : Int) - ((0 : Nat) : Int)) 1
    rw [e1, e2]
    exact Heap.get?_push_size _ rfl
  · have e : b = (s.heap.push { cls := .type "range", data := .fields #[.int lo t, .int hi u, .int 1 v] }).objs.size := by simpa using hb
    subst e
    exact I1.fpOk (Nat.le_refl _) (I1.hok.fresh (Nat.le_refl _))
def iRng1 (ta : TA) : TI := fun σ H R => ta σ H fun vs H1 => ∃ j : Int, vs = [.int j] ∧ -(2 ^ 62) ≤ j ∧ j < 2 ^ 62 ∧ R (Itr 0 j.toNat) H1
theorem pi_range1 {a : Expr} {ta : TA} {p pos : Pos} (hg : Gl X "range") (hm : X.mg "range" = none) (ha : PA X [a] ta) (hs : starEach [a] X.env = [(false, eval a X.env)] := by rfl) : PI X tg (.Call (.Name "range" p) [a] [] pos) (iRng1 ta) := by
  intro pins s σ H R I h
  refine Call_ (ld_blt I hg hm boot_range (PyProof.Rows.callWith_type1 (thn (ha pos pins s σ H _ I h) fun us s1 ⟨vs, H1, I1, r1, q1⟩ => ?_) hs rfl))
  obtain ⟨j, e, q1, q2, q⟩ := q1
  subst e
  cases r1 with
  | cons r rr =>
    cases rr
    obtain ⟨t, rfl⟩ := r
    exact call_range_1 (range_it I1 (by omega) (by omega) q1 q2 (by simpa using q))

/-! ### for -/
/-- W: the invariant by the turn and a measure; N: what the body is to reach -/
def tFor (wi : TI) (g : TG) (tb : TS) : TS := fun D σ H => wi σ H fun J H1 => ∃ W : Nat → Nat → St → Hp → Prop, (∃ m, W 0 m σ H1) ∧ ∀ i m σ H, W i m σ H →
  (J.stop i H ∧ D.nx σ H) ∨ (J.go i H ∧ ∃ N : St → Hp → Prop, (∀ σ' H', N σ' H' → ∃ m', m' < m ∧ W (i + 1) m' σ' H') ∧ ∀ x H', J.yld i H x H' → g x σ H' fun σ2 H2 => tb { D with nx := N, ct := N, bk := D.nx } σ2 H2)
/-- the records at fp as they stand -/
def pinsAt (fp : List Addr) (h : Heap) : List (Addr × Obj) := fp.filterMap fun b => (h.get? b).map fun o => (b, o)
theorem mem_pinsAt {fp : List Addr} {h : Heap} {b : Addr} {o : Obj} (hb : b ∈ fp) (e : h.get? b = some o) : (b, o) ∈ pinsAt fp h := List.mem_filterMap.mpr ⟨b, hb, by rw [e]; rfl⟩
theorem of_pinsAt {fp : List Addr} {h : Heap} {p : Addr × Obj} (hp : p ∈ pinsAt fp h) : p.1 ∈ fp ∧ h.get? p.1 = some p.2 := by
  obtain ⟨b, hb, e⟩ := List.mem_filterMap.mp hp
  cases q : h.get? b with
  | none => rw [q] at e; cases e
  | some o =>
    rw [q] at e
    have e' : (b, o) = p := Option.some.inj e
    subst e'
    exact ⟨hb, q⟩
theorem Inv.pinned {pins : List (Addr × Obj)} {σ : St} {H : Hp} {s : Shared} {fp : List Addr} (I : Inv X pins σ H s) (hf : ∀ b ∈ fp, FpOk X pins H b) (ho : ∀ b ∈ fp, ∃ o, s.heap.get? b = some o ∧ ∀ v, o.data ≠ .cell v) : Inv X (pins ++ pinsAt fp s.heap) σ H s :=
  I.pins_of fun p hp => (List.mem_append.mp hp).elim (fun z => I.pin p (List.mem_append_right _ z)) fun z => by
    obtain ⟨hb, e⟩ := of_pinsAt z
    obtain ⟨f0, f1, f2, _⟩ := hf p.1 hb
    obtain ⟨o, e', d⟩ := ho p.1 hb
    rw [e] at e'; cases e'
    exact ⟨e, f0, f1, f2, d⟩
theorem Inv.unpinned {pins pl : List (Addr × Obj)} {σ : St} {H : Hp} {s : Shared} (I : Inv X (pins ++ pl) σ H s) : Inv X pins σ H s := I.pins_of fun p hp => I.pin p (List.mem_append_right _ (List.mem_append_left _ hp))
theorem ps_for {iter : Expr} {body : List Stmt} {wi : TI} {g : TG} {tb : TS} {pos : Pos} (hp : PassesOwn (model X.prog X.w) X.A X.env X.xe) (hc : X.calm = true) (hi : PI X tg iter wi) (hg : PG X tg g) (hb : PSs X body tb)
    (hs : ∀ x, foldedSetIterable iter X.env x = pure x := by intro _; rfl) : PS X (.For tg iter body [] pos) (tFor wi g tb) := by
  intro pins s σ H D I h
  refine wpAny_For (thn (hi pins s σ H _ I h) fun v s1 h1 => thn h1 fun itv s2 h2 => ?_) hs
  obtain ⟨it, fp, tn, J, H2, e, I2, T, st2, f2, W, ⟨m0, w0⟩, turn⟩ := h2
  subst e
  -- what stays true of the iterator's objects through the loop
  have stat : ∀ {H' : Hp}, (∀ b ∈ fp, H' b = none) → ∀ b ∈ fp, FpOk X pins H' b := fun hn b hb => ⟨hn b hb, (f2 b hb).2⟩
  refine codeAny_forLoop_any (fun n s' => ∃ i σ' H', Inv X pins σ' H' s' ∧ tn i s'.heap ∧ (∀ b ∈ fp, H' b = none) ∧ W i n σ' H') ?_ m0 ⟨0, σ, H2, I2, st2, fun b hb => (f2 b hb).1, w0⟩
  rintro n s3 ⟨i, σ3, H3, I3, st3, fr3, w3⟩
  rcases turn i n σ3 H3 w3 with ⟨stop, qn⟩ | ⟨go, N, hN, step⟩
  · refine wpAny_passesOwn hp (thn (T.done X rfl rfl rfl hc i pins s3 σ3 H3 X.xe I3 (stat fr3) st3 stop) fun r s4 ⟨hr, I4⟩ => ?_)
    subst hr
    exact wpAny_execs_nil ⟨σ3, H3, I4, qn⟩
  · refine wpAny_passesOwn hp (thn (T.item X rfl rfl rfl hc i pins s3 σ3 H3 X.xe I3 (stat fr3) st3 go) fun r s4 ⟨u, hr, h4⟩ => ?_)
    subst hr
    refine wpAny_passesOwn hp (thn h4 fun _ s5 ⟨x, H5, I5, r5, y5, st5, fr5⟩ => ?_)
    have I5' := I5.pinned (stat fr5) (T.obj _ _ st5)
    refine wpAny_passesOwn hp (thn (hg _ s5 σ3 H5 x u _ I5' r5 (step x H5 y5)) fun _ s6 ⟨σ6, H6, I6, q6⟩ => ?_)
    refine wpAny_passesOwn hp (thn (hb _ s6 σ6 H6 _ I6 q6) fun f s7 q7 => ?_)
    have again : ∀ {σ7 : St} {H7 : Hp}, Inv X (pins ++ pinsAt fp s5.heap) σ7 H7 s7 → N σ7 H7 → ∃ m, m < n ∧ ∃ i σ' H', Inv X pins σ' H' s7 ∧ tn i s7.heap ∧ (∀ b ∈ fp, H' b = none) ∧ W i m σ' H' := fun {σ7 H7} I7 n7 => by
      obtain ⟨m', hm, w7⟩ := hN σ7 H7 n7
      refine ⟨m', hm, i + 1, σ7, H7, I7.unpinned, T.keep _ _ _ st5 fun b hb o e => (I7.pin (b, o) (List.mem_append_right _ (List.mem_append_right _ (mem_pinsAt hb e)))).1, fun b hb => ?_, w7⟩
      obtain ⟨o, e, d⟩ := T.obj _ _ st5 b hb
      exact (I7.pin (b, o) (List.mem_append_right _ (List.mem_append_right _ (mem_pinsAt hb e)))).2.1
    cases f with
    | next => obtain ⟨σ7, H7, I7, n7⟩ := q7; exact again I7 n7
    | cont => obtain ⟨σ7, H7, I7, n7⟩ := q7; exact again I7 n7
    | brk => obtain ⟨σ7, H7, I7, q7⟩ := q7; exact ⟨σ7, H7, I7.unpinned, q7⟩
    | ret v => obtain ⟨x7, σ7, H7, I7, r7, q7⟩ := q7; exact ⟨x7, σ7, H7, I7.unpinned, r7, q7⟩
end

/-! ### the forms one uses -/
/-- over a list that the body leaves as it is -/
theorem for_list {K : PySem.W.Frag} {a : Addr} {xs : List V} {g : TG} {tb : TS} {D : Ends} {σ : St} {H : Hp} (Pv : Nat → St → Hp → Prop) (h0 : Pv 0 σ H) (hl : ∀ i σ H, i ≤ xs.length → Pv i σ H → SqL K H a xs)
    (hs : ∀ i x σ H, xs[i]? = some x → Pv i σ H → g x σ H fun σ2 H2 => tb { D with nx := Pv (i + 1), ct := Pv (i + 1), bk := D.nx } σ2 H2) (hd : ∀ σ H, Pv xs.length σ H → D.nx σ H) :
    ∃ W : Nat → Nat → St → Hp → Prop, (∃ m, W 0 m σ H) ∧ ∀ i m σ H, W i m σ H →
      ((Itl K a).stop i H ∧ D.nx σ H) ∨ ((Itl K a).go i H ∧ ∃ N : St → Hp → Prop, (∀ σ' H', N σ' H' → ∃ m', m' < m ∧ W (i + 1) m' σ' H') ∧ ∀ x H', (Itl K a).yld i H x H' → g x σ H' fun σ2 H2 => tb { D with nx := N, ct := N, bk := D.nx } σ2 H2) := by
  refine ⟨fun i m σ H => m = xs.length - i ∧ i ≤ xs.length ∧ Pv i σ H, ⟨xs.length, by simp, Nat.zero_le _, h0⟩, ?_⟩
  rintro i m σ H ⟨rfl, hi, p⟩
  have q := hl i σ H hi p
  by_cases hlt : i < xs.length
  · refine .inr ⟨⟨xs, xs[i], q, by simp [hlt]⟩, Pv (i + 1), fun σ' H' p' => ⟨xs.length - (i + 1), by omega, rfl, hlt, p'⟩, fun x H' y => ?_⟩
    obtain ⟨e, y⟩ := y
    subst e
    exact hs i x σ _ (y xs q) p
  · have e : i = xs.length := by omega
    subst e
    exact .inl ⟨⟨xs, q, Nat.le_refl _⟩, hd σ H p⟩
end L2

namespace L2
open PySem PySem.Spec PyProof.Rows

abbrev R2 := V → V → Hp → VK → Prop
/-- a two-place operation on values: f is binaryOp op, inplaceOp op or compareOp op -/
def OpR (X : Cx) (f : Value → Value → Sem Value) (r : R2) : Prop :=
  ∀ (pins : List (Addr × Obj)) (s : Shared) (σ : St) (H : Hp) (x y : V) (v u : Value) (Q : VK), Inv X pins σ H s → RelV x v → RelV y u → r x y H Q →
    wpAny (model X.prog X.w) X.A (f v u) (EP X pins σ Q) X.xe s
/-- a one-place operation -/
def UnR (X : Cx) (f : Value → Sem Value) (r : V → Hp → VK → Prop) : Prop :=
  ∀ (pins : List (Addr × Obj)) (s : Shared) (σ : St) (H : Hp) (x : V) (v : Value) (Q : VK), Inv X pins σ H s → RelV x v → r x H Q →
    wpAny (model X.prog X.w) X.A (f v) (EP X pins σ Q) X.xe s
/-- a call of a value that is known (a builtin, a type) with values -/
def CallR (X : Cx) (f : Value) (r : List V → Hp → VK → Prop) : Prop :=
  ∀ (pins : List (Addr × Obj)) (s : Shared) (σ : St) (H : Hp) (xs : List V) (us : List Value) (Q : VK), Inv X pins σ H s → Vals xs us → r xs H Q →
    wpAny (model X.prog X.w) X.A (call f us) (EP X pins σ Q) X.xe s

def tOp (r : R2) (ta tb : TE) : TE := fun σ H Q => ta σ H fun x H1 => tb σ H1 fun y H2 => r x y H2 Q
def tUn (r : V → Hp → VK → Prop) (ta : TE) : TE := fun σ H Q => ta σ H fun x H1 => r x H1 Q
/-- ints in, under C, and a value out -/
def rI (C : Int → Int → Prop) (g : Int → Int → V) : R2 := fun x y H Q => ∃ i j, x = .int i ∧ y = .int j ∧ C i j ∧ Q (g i j) H
def rI0 (g : Int → Int → V) : R2 := fun x y H Q => ∃ i j, x = .int i ∧ y = .int j ∧ Q (g i j) H
def rU (g : Int → V) : V → Hp → VK → Prop := fun x H Q => ∃ i, x = .int i ∧ Q (g i) H

section
variable {X : Cx} {a b c : Expr} {ta tb tc : TE} {pos : Pos}

theorem binT (ha : PE X a ta) (hb : PE X b tb) {pins : List (Addr × Obj)} {s : Shared} {σ : St} {H : Hp} {R : V → V → Hp → Prop} (I : Inv X pins σ H s)
    (h : ta σ H fun x H1 => tb σ H1 fun y H2 => R x y H2) {Q : Value → Shared → Prop} {f : Value → Value → Sem Value}
    (hf : ∀ v u s2 x y H2, Inv X pins σ H2 s2 → RelV x v → RelV y u → R x y H2 → wpAny (model X.prog X.w) X.A (f v u) Q X.xe s2) :
    wpAny (model X.prog X.w) X.A (eval a X.env) (fun v s₁ => wpAny (model X.prog X.w) X.A (eval b X.env) (fun u s₂ => wpAny (model X.prog X.w) X.A (f v u) Q X.xe s₂) X.xe s₁) X.xe s := by
  refine thn (ha pins s σ H _ I h) fun v s1 ⟨x, H1, I1, r1, q1⟩ => ?_
  refine thn (hb pins s1 σ H1 _ I1 q1) fun u s2 ⟨y, H2, I2, r2, q2⟩ => ?_
  exact hf v u s2 x y H2 I2 r1 r2 q2

theorem pe_op {op : Operator} {r : R2} (ho : OpR X (binaryOp op) r) (ha : PE X a ta) (hb : PE X b tb) : PE X (.BinOp a op b pos) (tOp r ta tb) := by
  intro pins s σ H Q I h
  exact wpAny_BinOp (binT ha hb I h fun v u s2 x y H2 I2 rx ry q => ho pins s2 σ H2 x y v u Q I2 rx ry q)
theorem pe_un {op : UnaryOp} {r : V → Hp → VK → Prop} (ho : UnR X (unaryOp op) r) (ha : PE X a ta) : PE X (.UnaryOp op a pos) (tUn r ta) := by
  intro pins s σ H Q I h
  exact UnaryOp_ (thn (ha pins s σ H _ I h) fun v s1 ⟨x, H1, I1, r1, q1⟩ => ho pins s1 σ H1 x v Q I1 r1 q1)

/-! ### ints -/
theorem opI {f : Value → Value → Sem Value} {C : Int → Int → Prop} {g : Int → Int → Int}
    (rule : ∀ (i j : Int) (t u : Tok) (s : Shared) (Q : Value → Shared → Prop) (E : Value → Shared → Prop), C i j → Q (.int (g i j) s.toks) { s with toks := s.toks + 1 } → wpAny (model X.prog X.w) X.A (f (.int i t) (.int j u)) Q E s) :
    OpR X f (rI C fun i j => .int (g i j)) := by
  intro pins s σ H x y v u Q I rx ry h
  obtain ⟨i, j, rfl, rfl, hc, q⟩ := h
  obtain ⟨t, rfl⟩ := rx
  obtain ⟨t', rfl⟩ := ry
  exact rule i j t t' s _ _ hc ⟨.int (g i j), H, I.tok _, ⟨_, rfl⟩, q⟩
theorem opI0 {f : Value → Value → Sem Value} {g : Int → Int → Int}
    (rule : ∀ (i j : Int) (t u : Tok) (s : Shared) (Q : Value → Shared → Prop) (E : Value → Shared → Prop), Q (.int (g i j) s.toks) { s with toks := s.toks + 1 } → wpAny (model X.prog X.w) X.A (f (.int i t) (.int j u)) Q E s) :
    OpR X f (rI0 fun i j => .int (g i j)) := by
  intro pins s σ H x y v u Q I rx ry h
  obtain ⟨i, j, rfl, rfl, q⟩ := h
  obtain ⟨t, rfl⟩ := rx
  obtain ⟨t', rfl⟩ := ry
  exact rule i j t t' s _ _ ⟨.int (g i j), H, I.tok _, ⟨_, rfl⟩, q⟩
theorem opB0 {f : Value → Value → Sem Value} {g : Int → Int → Bool}
    (rule : ∀ (i j : Int) (t u : Tok) (s : Shared) (Q : Value → Shared → Prop) (E : Value → Shared → Prop), Q (.bool (g i j)) s → wpAny (model X.prog X.w) X.A (f (.int i t) (.int j u)) Q E s) :
    OpR X f (rI0 fun i j => .bl (g i j)) := by
  intro pins s σ H x y v u Q I rx ry h
  obtain ⟨i, j, rfl, rfl, q⟩ := h
  obtain ⟨t, rfl⟩ := rx
  obtain ⟨t', rfl⟩ := ry
  exact rule i j t t' s _ _ ⟨.bl (g i j), H, I, rfl, q⟩

def CDiv (i j : Int) : Prop := 0 < j ∧ j < 1073741824
def CPow (i j : Int) : Prop := 0 ≤ j ∧ j ≤ 1000000 ∧ i.natAbs < 2 ^ 64
def CMul (i j : Int) : Prop := (-(2 ^ 64) < i ∧ i < 2 ^ 64) ∨ (-(2 ^ 64) < j ∧ j < 2 ^ 64)
theorem CMul.ok {i j : Int} (h : CMul i j) : IntMulOk i j := by
  rcases h with ⟨h1, h2⟩ | ⟨h1, h2⟩
  · exact .of_left (intBits_le_64 h1 h2)
  · exact .of_right (intBits_le_64 h1 h2)
theorem two_pow_nn (k : Nat) : (0 : Int) ≤ 2 ^ k := by
  rw [two_pow_cast]
  exact Int.natCast_nonneg _

theorem op_add : OpR X (binaryOp .Add) (rI0 fun i j => .int (i + j)) := opI0 fun _ _ _ _ _ _ _ q => add_int q
theorem op_sub : OpR X (binaryOp .Sub) (rI0 fun i j => .int (i - j)) := opI0 fun _ _ _ _ _ _ _ q => sub_int q
theorem op_mul : OpR X (binaryOp .Mult) (rI CMul fun i j => .int (i * j)) := opI fun _ _ _ _ _ _ _ hc q => mul_int q hc.ok
/-- // by a positive divisor -/
theorem op_fdiv : OpR X (binaryOp .FloorDiv) (rI CDiv fun i j => .int (i / j)) := opI fun i j _ _ _ _ _ hc q => by
  have h1 : (0 : Int) < j := hc.1
  have h2 : j < 1073741824 := hc.2
  exact floordiv_int (by omega) (by rw [Int.fdiv_eq_ediv_of_nonneg i (by omega)]; exact q) (.inl (PyProof.noPylong_small (by omega)))
/-- % by a positive divisor of any size -/
theorem op_mod : OpR X (binaryOp .Mod) (rI (fun _ j => 0 < j) fun i j => .int (i % j)) := opI fun i j _ _ _ _ _ hc q => by
  have h1 : (0 : Int) < j := hc
  exact mod_int' (by omega) (by rw [Int.fmod_eq_emod_of_nonneg i (by omega)]; exact q)
theorem op_shl : OpR X (binaryOp .LShift) (rI CPow fun i j => .int (i * 2 ^ j.toNat)) := opI fun _ _ _ _ _ _ _ hc q => lshift_int_small hc.1 hc.2.1 hc.2.2 q
theorem op_shr : OpR X (binaryOp .RShift) (rI (fun _ j => 0 ≤ j) fun i j => .int (i / 2 ^ j.toNat)) := opI fun i j _ _ _ _ _ hc q =>
  rshift_int hc (by rw [Int.fdiv_eq_ediv_of_nonneg i (two_pow_nn _)]; exact q)
theorem op_and : OpR X (binaryOp .BitAnd) (rI0 fun i j => .int (Builtin.bitAnd i j)) := opI0 fun _ _ _ _ _ _ _ q => and_int q
theorem op_or : OpR X (binaryOp .BitOr) (rI0 fun i j => .int (Builtin.bitOr i j)) := opI0 fun _ _ _ _ _ _ _ q => or_int q
theorem op_xor : OpR X (binaryOp .BitXor) (rI0 fun i j => .int (Builtin.bitXor i j)) := opI0 fun _ _ _ _ _ _ _ q => xor_int q


theorem unI {f : Value → Sem Value} {g : Int → Int}
    (rule : ∀ (i : Int) (t : Tok) (s : Shared) (Q : Value → Shared → Prop) (E : Value → Shared → Prop), Q (.int (g i) s.toks) { s with toks := s.toks + 1 } → wpAny (model X.prog X.w) X.A (f (.int i t)) Q E s) :
    UnR X f (rU fun i => .int (g i)) := by
  intro pins s σ H x v Q I rx h
  obtain ⟨i, rfl, q⟩ := h
  obtain ⟨t, rfl⟩ := rx
  exact rule i t s _ _ ⟨.int (g i), H, I.tok _, ⟨_, rfl⟩, q⟩
theorem un_neg : UnR X (unaryOp .USub) (rU fun i => .int (-i)) := unI fun _ _ _ _ _ q => neg_int q

/-! ### bools among ints: n += (a < b) -/
end

/-! ### comparisons -/
/-- the scalars that == tells apart as data does -/
def scal : V → V → Bool
  | .non, .non => true | .non, .int _ => true | .int _, .non => true | .non, .bl _ => true | .bl _, .non => true | .non, .str _ => true | .str _, .non => true
  | .int _, .int _ => true | .bl _, .bl _ => true | .str _, .str _ => true | .byt _, .byt _ => true
  | .int _, .str _ => true | .str _, .int _ => true | .bl _, .str _ => true | .str _, .bl _ => true
  | _, _ => false
def rEq : R2 := fun x y H Q => scal x y = true ∧ Q (.bl (decide (x = y))) H
def rNe : R2 := fun x y H Q => scal x y = true ∧ Q (.bl (!decide (x = y))) H

theorem dec_int {i j : Int} : decide (V.int i = V.int j) = (i == j) := by
  rw [Bool.eq_iff_iff]
  simp
theorem dec_bl {i j : Bool} : decide (V.bl i = V.bl j) = (i == j) := by
  rw [Bool.eq_iff_iff]
  simp
theorem dec_str {i j : Str} : decide (V.str i = V.str j) = (i == j) := by
  rw [Bool.eq_iff_iff]
  simp
theorem dec_byt {i j : Array UInt8} : decide (V.byt i = V.byt j) = (i.toList == j.toList) := by
  rw [Bool.eq_iff_iff]
  cases i
  cases j
  simp

section
variable {X : Cx} {a b c : Expr} {ta tb tc : TE} {pos : Pos}
theorem fin_bl {pins : List (Addr × Obj)} {σ : St} {H : Hp} {s : Shared} {Q : VK} {k k' : Bool} (I : Inv X pins σ H s) (q : Q (.bl k) H) (e : k = k') : EP X pins σ Q (.bool k') s := by
  subst e
  exact ⟨.bl k, H, I, rfl, q⟩
theorem op_eq : OpR X (compareOp .Eq) rEq := by
  intro pins s σ H x y v u Q I rx ry h
  obtain ⟨hs, q⟩ := h
  cases x with
  | non =>
    cases rx
    cases y with
    | non => cases ry; exact PySem.EqNone.eq_none_none (fin_bl I q (by simp))
    | bl j => cases ry; exact PySem.EqNone.eq_none_bool (fin_bl I q (by simp))
    | int j => obtain ⟨t', rfl⟩ := ry; exact PySem.EqNone.eq_none_int (fin_bl I q (by simp))
    | str j => obtain ⟨t', rfl⟩ := ry; exact PySem.EqNone.eq_none_str (fin_bl I q (by simp))
    | _ => exact absurd (show false = true from hs) Bool.false_ne_true
  | bl i =>
    cases rx
    cases y with
    | non => cases ry; exact PySem.EqNone.eq_bool_none (fin_bl I q (by simp))
    | bl j => cases ry; exact eq_bool (fin_bl I q dec_bl)
    | str j => obtain ⟨t', rfl⟩ := ry; exact PySem.EqMixed.eq_bool_str (fin_bl I q (by simp))
    | _ => exact absurd (show false = true from hs) Bool.false_ne_true
  | int i =>
    obtain ⟨t, rfl⟩ := rx
    cases y with
    | non => cases ry; exact PySem.EqNone.eq_int_none (fin_bl I q (by simp))
    | int j => obtain ⟨t', rfl⟩ := ry; exact eq_int (fin_bl I q dec_int)
    | str j => obtain ⟨t', rfl⟩ := ry; exact PySem.EqMixed.eq_int_str (fin_bl I q (by simp))
    | _ => exact absurd (show false = true from hs) Bool.false_ne_true
  | str i =>
    obtain ⟨t, rfl⟩ := rx
    cases y with
    | non => cases ry; exact PySem.EqNone.eq_str_none (fin_bl I q (by simp))
    | bl j => cases ry; exact PySem.EqMixed.eq_str_bool (fin_bl I q (by simp))
    | int j => obtain ⟨t', rfl⟩ := ry; exact PySem.EqMixed.eq_str_int (fin_bl I q (by simp))
    | str j => obtain ⟨t', rfl⟩ := ry; exact eq_str (fin_bl I q dec_str)
    | _ => exact absurd (show false = true from hs) Bool.false_ne_true
  | byt i =>
    obtain ⟨t, rfl⟩ := rx
    cases y with
    | byt j => obtain ⟨t', rfl⟩ := ry; exact PySem.W.eq_bytes (fin_bl I q dec_byt)
    | _ => exact absurd (show false = true from hs) Bool.false_ne_true
  | _ => cases y <;> exact absurd (show false = true from hs) Bool.false_ne_true
theorem op_ne : OpR X (compareOp .NotEq) rNe := by
  intro pins s σ H x y v u Q I rx ry h
  obtain ⟨hs, q⟩ := h
  cases x with
  | non =>
    cases rx
    cases y with
    | non => cases ry; exact PySem.EqNone.ne_none_none (fin_bl I q (by simp))
    | bl j => cases ry; exact PySem.EqNone.ne_none_bool (fin_bl I q (by simp))
    | int j => obtain ⟨t', rfl⟩ := ry; exact PySem.EqNone.ne_none_int (fin_bl I q (by simp))
    | str j => obtain ⟨t', rfl⟩ := ry; exact PySem.EqNone.ne_none_str (fin_bl I q (by simp))
    | _ => exact absurd (show false = true from hs) Bool.false_ne_true
  | bl i =>
    cases rx
    cases y with
    | non => cases ry; exact PySem.EqNone.ne_bool_none (fin_bl I q (by simp))
    | bl j => cases ry; exact ne_bool (fin_bl I q (congrArg not dec_bl))
    | str j => obtain ⟨t', rfl⟩ := ry; exact PySem.EqMixed.ne_bool_str (fin_bl I q (by simp))
    | _ => exact absurd (show false = true from hs) Bool.false_ne_true
  | int i =>
    obtain ⟨t, rfl⟩ := rx
    cases y with
    | non => cases ry; exact PySem.EqNone.ne_int_none (fin_bl I q (by simp))
    | int j => obtain ⟨t', rfl⟩ := ry; exact ne_int (fin_bl I q (congrArg not dec_int))
    | str j => obtain ⟨t', rfl⟩ := ry; exact PySem.EqMixed.ne_int_str (fin_bl I q (by simp))
    | _ => exact absurd (show false = true from hs) Bool.false_ne_true
  | str i =>
    obtain ⟨t, rfl⟩ := rx
    cases y with
    | non => cases ry; exact PySem.EqNone.ne_str_none (fin_bl I q (by simp))
    | bl j => cases ry; exact PySem.EqMixed.ne_str_bool (fin_bl I q (by simp))
    | int j => obtain ⟨t', rfl⟩ := ry; exact PySem.EqMixed.ne_str_int (fin_bl I q (by simp))
    | str j => obtain ⟨t', rfl⟩ := ry; exact ne_str (fin_bl I q (congrArg not dec_str))
    | _ => exact absurd (show false = true from hs) Bool.false_ne_true
  | byt i =>
    obtain ⟨t, rfl⟩ := rx
    cases y with
    | byt j => obtain ⟨t', rfl⟩ := ry; exact PySem.W.ne_bytes (fin_bl I q (congrArg not dec_byt))
    | _ => exact absurd (show false = true from hs) Bool.false_ne_true
  | _ => cases y <;> exact absurd (show false = true from hs) Bool.false_ne_true

theorem op_lt : OpR X (compareOp .Lt) (rI0 fun i j => .bl (decide (i < j))) := opB0 fun _ _ _ _ _ _ _ q => lt_int q
theorem op_le : OpR X (compareOp .LtE) (rI0 fun i j => .bl (decide (i ≤ j))) := opB0 fun _ _ _ _ _ _ _ q => le_int q
theorem op_gt : OpR X (compareOp .Gt) (rI0 fun i j => .bl (decide (j < i))) := opB0 fun _ _ _ _ _ _ _ q => gt_int q
theorem op_ge : OpR X (compareOp .GtE) (rI0 fun i j => .bl (decide (j ≤ i))) := opB0 fun _ _ _ _ _ _ _ q => ge_int q




theorem nomark (b : Expr) {op : CmpOp} (h : op ≠ .In := by decide) (h2 : op ≠ .NotIn := by decide) : behindInMarks op b = false := by
  have e1 : (op == CmpOp.In) = false := by cases op <;> first | rfl | exact absurd rfl h
  have e2 : (op == CmpOp.NotIn) = false := by cases op <;> first | rfl | exact absurd rfl h2
  cases b <;> simp [behindInMarks, e1, e2]
/-- a comparison as a value; hm: nomark b, or (for in, not in) by with_unfolding_all rfl -/
theorem pe_cmpR {op : CmpOp} {r : R2} (ho : OpR X (compareOp op) r) (ha : PE X a ta) (hb : PE X b tb) (hm : behindInMarks op b = false) : PE X (.Compare a [op] [b] pos) (tOp r ta tb) := by
  intro pins s σ H Q I h
  exact wpAny_Compare1 (binT ha hb I h fun v u s2 x y H2 I2 rx ry q => ho pins s2 σ H2 x y v u Q I2 rx ry q) hm
/-- a reading of a value as a test -/
def tTest (t : TE) : TT := fun σ H Q => t σ H fun x H' => ∃ k, x = .bl k ∧ Q k H'
theorem pt_cmpR {op : CmpOp} {r : R2} (ho : OpR X (compareOp op) r) (ha : PE X a ta) (hb : PE X b tb) (hm : behindInMarks op b = false) : PT X (.Compare a [op] [b] pos) (tTest (tOp r ta tb)) := by
  intro pins s σ H Q I h
  refine wpAny_isTrue_Compare1 (thn (ha pins s σ H _ I h) fun v s1 ⟨x, H1, I1, r1, q1⟩ => thn (hb pins s1 σ H1 _ I1 q1) fun u s2 ⟨y, H2, I2, r2, q2⟩ =>
    thn (ho pins s2 σ H2 x y v u _ I2 r1 r2 q2) fun c s3 ⟨z, H3, I3, r3, k, e, q3⟩ => ?_) hm
  subst e
  cases r3
  exact wpAny_truthy_bool ⟨H3, I3, q3⟩

/-! ### truth -/
theorem line63 : (sizeLine : Nat) < 2 ^ 63 := by rw [sizeLine_eq]; decide

/-! ### strs and bytes -/


/-! ### scalar builtins, by CallR -/
theorem vals1 {x : V} {us : List Value} (r : Vals [x] us) : ∃ u, us = [u] ∧ RelV x u := by
  cases r with
  | cons r1 r2 => cases r2; exact ⟨_, rfl, r1⟩
theorem vals2 {x y : V} {us : List Value} (r : Vals [x, y] us) : ∃ u w', us = [u, w'] ∧ RelV x u ∧ RelV y w' := by
  cases r with
  | cons r1 r2 =>
    cases r2 with
    | cons r3 r4 => cases r4; exact ⟨_, _, rfl, r1, r3⟩
theorem call_max2 (hc : X.calm = true) : CallR X (.builtin "max") (fun xs H Q => ∃ i j, xs = [.int i, .int j] ∧ Q (.int (if j > i then j else i)) H) := by
  intro pins s σ H xs us Q I r h
  obtain ⟨i, j, rfl, q⟩ := h
  obtain ⟨u, w', rfl, ⟨t, rfl⟩, ⟨t', rfl⟩⟩ := vals2 r
  refine max_two_ints (I.ok.hd hc) fun h' tk k => ⟨_, H, I.kept k, ?_, q⟩
  by_cases hj : j > i
  · rw [if_pos hj, if_pos hj]; exact ⟨_, rfl⟩
  · rw [if_neg hj, if_neg hj]; exact ⟨_, rfl⟩
theorem call_min2 (hc : X.calm = true) : CallR X (.builtin "min") (fun xs H Q => ∃ i j, xs = [.int i, .int j] ∧ Q (.int (if j < i then j else i)) H) := by
  intro pins s σ H xs us Q I r h
  obtain ⟨i, j, rfl, q⟩ := h
  obtain ⟨u, w', rfl, ⟨t, rfl⟩, ⟨t', rfl⟩⟩ := vals2 r
  refine min_two_ints (I.ok.hd hc) fun h' tk k => ⟨_, H, I.kept k, ?_, q⟩
  by_cases hj : j < i
  · rw [if_pos hj, if_pos hj]; exact ⟨_, rfl⟩
  · rw [if_neg hj, if_neg hj]; exact ⟨_, rfl⟩
end
end L2

namespace L2
open PySem PySem.Spec PyProof.Rows

/-! ### an instance, its attributes a map -/
structure ObjM (h : Heap) (x dx C : Addr) (mA : Str → Option Value) : Prop where
  obj : h.get? x = some (PySem.W.instObj C dx)
  ns : h.Ns1 dx mA
  ne : dx ≠ x

theorem lookIn_ns {h : Heap} {dx : Addr} {mA : Str → Option Value} (n : h.Ns1 dx mA) : ∃ od, h.get? dx = some od ∧ ∀ name, PySem.W.lookIn name od = some (mA name) := by
  obtain ⟨o, es, ep, ho, hd, hk, _, hm⟩ := n
  refine ⟨o, ho, fun name => ?_⟩
  have e := hm name
  unfold nsFind findBy at e
  rw [← Array.find?_toList] at e
  unfold PySem.W.lookIn
  rw [hd]
  dsimp only
  split
  · rename_i y q
    rw [q] at e
    exact congrArg some e
  · rename_i q
    rw [q] at e
    have a : es.toList.any (·.refKey) = false := by
      rw [List.any_eq_false]
      intro y hy
      obtain ⟨z, t, hkey⟩ := hk y (Array.mem_toList_iff.mp hy)
      simp [DictEntry.refKey, hkey]
    have a' : ¬ es.toList.any (·.refKey) = true := by rw [a]; exact Bool.false_ne_true
    rw [if_neg a']
    exact congrArg some e

theorem ObjM.look {h : Heap} {x dx C : Addr} {mA : Str → Option Value} (I : ObjM h x dx C mA) : ∃ od, PySem.W.InstAt h x (PySem.W.instObj C dx) C (some od) ∧ ∀ name, PySem.W.lookIn name od = some (mA name) :=
  let ⟨od, ho, hl⟩ := lookIn_ns I.ns
  ⟨od, ⟨I.obj, rfl, rfl, ho⟩, hl⟩

section
variable {prog : Program} {w : World} {A : Around} {E : Value → Shared → Prop} {s : Shared} {K : PySem.W.Frag} {x dx C f : Addr} {mA : Str → Option Value} {name : Str} {v : Value}

theorem get_map {expr : Bool} {Q : Value → Shared → Prop} (X : K.In s.heap) (I : ObjM s.heap x dx C mA) (hg : PySem.W.plainGet K C name = true) (hh : PySem.W.hasDictIn K C = true)
    (ha : PySem.W.findIn K (.ref C) name = some none) (hv : mA name = some v) (hv' : PySem.W.handedIn v = true) (h : Q v { s with toks := s.toks + 1 }) :
    wpAny (model prog w) A (getAttr (.ref x) name expr) Q E s := by
  obtain ⟨od, J, hl⟩ := I.look
  exact PySem.W.get_value X J (PySem.W.plainGet_of hg).1 (PySem.W.findObj_own hh ha rfl (by rw [hl, hv])) hv' h


theorem get_meth {pl : Sem Bool} {Q : Value × List Value → Shared → Prop} (X : K.In s.heap) (I : ObjM s.heap x dx C mA) (hg : PySem.W.plainGet K C name = true)
    (hf : PySem.W.findIn K (.ref C) name = some (some (.ref f))) (ht : PySem.W.isFn K (.ref f) = true) (hv : mA name = none) (h : Q (.ref f, [.ref x]) s) :
    wpAny (model prog w) A (getMethod (.ref x) name pl) Q E s := by
  obtain ⟨od, J, hl⟩ := I.look
  exact PySem.W.method_fn X J (PySem.W.plainGet_of hg).1 (PySem.W.plainGet_of hg).2 hf (beq_iff_eq.mp ht) (by show (PySem.W.lookIn name od).map (·.isSome) = some false; rw [hl, hv]; rfl) h

theorem set_map {ns : List Str} {Q : Unit → Shared → Prop} (X : K.In s.heap) (I : ObjM s.heap x dx C mA)
    (hs : PySem.W.findIn K (.ref C) "__setattr__" = some (some (.builtin "object.__setattr__"))) (hp : PySem.W.plainOver K C = true) (ht : PySem.W.takerIn K C name = some none) (hh : PySem.W.hasDictIn K C = true)
    (hw : PySem.Within mA ns) (hsz : ns.length ≤ sizeLine)
    (h : ∀ h', ObjM h' x dx C (fun y => if y = name then some v else mA y) → Heap.SameBut dx s.heap h' → Q () { s with heap := h', toks := s.toks + 2 }) :
    wpAny (model prog w) A (setAttr (.ref x) name v) Q E s := by
  obtain ⟨od, J, hl⟩ := I.look
  refine PySem.W.set_plain X J hs (PySem.W.osa_open (s := { s with toks := s.toks + 1 }) (r := none) X J hp ht fun b => ?_)
  obtain ⟨cd, hc, hd'⟩ := PySem.W.any_some hh
  have hx : s.heap.get? x = some ⟨.ref C, some dx, .plain, #[]⟩ := I.obj
  refine wpAny_bind (wpAny_pure (wpAny_bind (wpAny_bind (wpAny_loadPart hx (wpAny_bind (PySem.W.Looks.here (s := { s with toks := s.toks + 1 }) (PySem.W.looks_clsIn X hc) ?_))))))
  rw [hd']
  refine wpAny_pure (a := some dx) (wpAny_bind (wpAny_pure (wpAny_bind ?_)))
  refine wpAny_nsSet1 (s := { s with toks := s.toks + 1 }) I.ns fun h' hn2 hs2 => ?_
  obtain ⟨oD, esD, epD, hoD, hdD, hcD⟩ := hn2.count (PySem.Within.cons name v hw)
  refine wpAny_bind (wpAny_lookBehind hoD (by rw [hdD]; exact pastItsLine_dict (Nat.le_trans hcD (by rw [List.length_cons]; omega))) ?_)
  exact wpAny_pure (h _ ⟨(hs2.2 _ (Ne.symm I.ne)).trans I.obj, hn2, I.ne⟩ hs2)

/-- C(..): the dict at the heap's end, the instance behind it; then its __init__ -/
theorem make_map {R : Result → Shared → Prop} {vs : List Value} {kw : List (Str × Value)} (X : K.In s.heap) (hm : PySem.W.makesIn K C = true)
    (hi : PySem.W.findIn K (.ref C) "__init__" = some (some (.ref f))) (hf : PySem.W.typeIn K (.ref f) = some (.type "function"))
    (h : codeAny (model prog w) (A.under (.builtin "type.__call__" ⟨.ref C :: vs, kw⟩)) (.call (.ref f) ⟨.ref (s.heap.objs.size + 1) :: vs, kw⟩) (PySem.W.InitBack (s.heap.objs.size + 1) R)
      { s with heap := (s.heap.push PySem.W.emptyDict).push (PySem.W.instObj C s.heap.objs.size) }) :
    codeAny (model prog w) A (.call (.ref C) ⟨vs, kw⟩) R s := by
  obtain ⟨hh, g, d, t, os⟩ := s
  exact PySem.W.make_core (PySem.W.makes_of X hm) (PySem.W.looks_findIn X hi) (fun self => PySem.W.bind_fn X self hf) (.inl rfl) h
end

/-! ### the attributes as a list of pairs -/
def putF (f : Str) (v : V) : List (Str × V) → List (Str × V)
  | [] => [(f, v)]
  | (g, x) :: r => if g = f then (g, v) :: r else (g, x) :: putF f v r
theorem lookup_putF (f g : Str) (v : V) : ∀ fs : List (Str × V), (putF f v fs).lookup g = if g = f then some v else fs.lookup g
  | [] => by
    show List.lookup g [(f, v)] = _
    by_cases h : g = f
    · have hb : (g == f) = true := beq_iff_eq.mpr h
      simp only [List.lookup, hb, if_pos h]
    · have hb : (g == f) = false := beq_eq_false_iff_ne.mpr h
      simp only [List.lookup, hb, if_neg h]
  | (k, x) :: r => by
    have ih := lookup_putF f g v r
    rw [show putF f v ((k, x) :: r) = (if k = f then (k, v) :: r else (k, x) :: putF f v r) from rfl]
    by_cases hk : k = f
    · rw [if_pos hk]
      by_cases h : g = k
      · have hb : (g == k) = true := beq_iff_eq.mpr h
        simp only [List.lookup, hb, if_pos (h.trans hk)]
      · have hb : (g == k) = false := beq_eq_false_iff_ne.mpr h
        simp only [List.lookup, hb, if_neg (fun e : g = f => h (e.trans hk.symm))]
    · rw [if_neg hk]
      by_cases h : g = k
      · have hb : (g == k) = true := beq_iff_eq.mpr h
        simp only [List.lookup, hb, if_neg (fun e : g = f => hk (h.symm.trans e))]
      · have hb : (g == k) = false := beq_eq_false_iff_ne.mpr h
        simp only [List.lookup, hb]
        exact ih
theorem keys_putF (f : Str) (v : V) : ∀ fs : List (Str × V), f ∈ (putF f v fs).map (·.1) ∧ ∀ g, g ∈ fs.map (·.1) → g ∈ (putF f v fs).map (·.1)
  | [] => ⟨by simp [putF], fun g h => by simp at h⟩
  | (k, x) :: r => by
    obtain ⟨i1, i2⟩ := keys_putF f v r
    rw [show putF f v ((k, x) :: r) = (if k = f then (k, v) :: r else (k, x) :: putF f v r) from rfl]
    by_cases hk : k = f
    · rw [if_pos hk]
      subst hk
      exact ⟨by simp, fun g h => by simpa using h⟩
    · rw [if_neg hk]
      refine ⟨?_, fun g h => ?_⟩
      · rw [List.map_cons]
        exact List.mem_cons_of_mem _ i1
      · rw [List.map_cons] at h ⊢
        rcases List.mem_cons.mp h with e | e
        · exact List.mem_cons.mpr (.inl e)
        · exact List.mem_cons_of_mem _ (i2 g e)
theorem length_putF (f : Str) (v : V) : ∀ fs : List (Str × V), (putF f v fs).length ≤ fs.length + 1
  | [] => by simp [putF]
  | (k, x) :: r => by
    have ih := length_putF f v r
    rw [show putF f v ((k, x) :: r) = (if k = f then (k, v) :: r else (k, x) :: putF f v r) from rfl]
    by_cases hk : k = f
    · rw [if_pos hk, List.length_cons, List.length_cons]; omega
    · rw [if_neg hk, List.length_cons, List.length_cons]; omega

theorem RelO.some_of {v : V} {o : Option Value} (r : RelO (some v) o) : ∃ u, o = some u ∧ RelV v u := by
  cases o with
  | none => exact (show False from r).elim
  | some u => exact ⟨u, rfl, r⟩
theorem RelO.none_of {o : Option Value} (r : RelO none o) : o = none := by
  cases o with
  | none => rfl
  | some u => exact (show False from r).elim
theorem handed_of {v : V} {u : Value} (r : RelV v u) : PySem.W.handedIn u = true := by
  cases v with
  | non => cases (show u = Value.none from r); rfl
  | bl b => cases (show u = Value.bool b from r); rfl
  | int i => obtain ⟨t, e⟩ := (show ∃ t, u = Value.int i t from r); cases e; rfl
  | str x => obtain ⟨t, e⟩ := (show ∃ t, u = Value.str x t from r); cases e; rfl
  | byt b => obtain ⟨t, e⟩ := (show ∃ t, u = Value.bytes b t from r); cases e; rfl
  | flt b => obtain ⟨t, e⟩ := (show ∃ t, u = Value.float b t from r); cases e; rfl
  | ref a => cases (show u = Value.ref a from r); rfl
  | ty n => cases (show u = Value.type n from r); rfl

section
variable {P : Program} {w : World} {H H' : Hp} {h h' : Heap} {a C dx : Addr} {fs fs' : List (Str × V)}
theorem ins_get (hok : HOk P w H h) (e : H a = some (.ins C dx fs)) : ∃ mA, ObjM h a dx C mA ∧ (∀ f, RelO (fs.lookup f) (mA f)) ∧ PySem.Within mA (fs.map (·.1)) ∧ fs.length ≤ 1000 ∧ H dx = some (.own a) := by
  obtain ⟨d, z, ne, ob, mA, n, r, q⟩ := (show ObjOk P w H h a (.ins C dx fs) from hok a _ e)
  exact ⟨mA, ⟨ob, n, ne⟩, r, q, z, d⟩
end

/-! ### what of the text a class must have -/
structure Cls (K : PySem.W.Frag) (C : Addr) : Prop where
  pg : PySem.W.plainGet K C Str.empty = true
  hd : PySem.W.hasDictIn K C = true
  po : PySem.W.plainOver K C = true
  sa : PySem.W.findIn K (.ref C) "__setattr__" = some (some (.builtin "object.__setattr__"))
theorem Cls.get {K : PySem.W.Frag} {C : Addr} (c : Cls K C) (f : Str) : PySem.W.plainGet K C f = true := c.pg
/-- no class of it has the name -/
def NoAttr (K : PySem.W.Frag) (C : Addr) (f : Str) : Prop := PySem.W.findIn K (.ref C) f = some none
theorem NoAttr.taker {K : PySem.W.Frag} {C : Addr} {f : Str} (n : NoAttr K C f) : PySem.W.takerIn K C f = some none := by
  unfold PySem.W.takerIn
  rw [show PySem.W.findIn K (.ref C) f = some none from n]
  rfl
/-- a method: a plain def of the class or of one above it -/
structure Meth (K : PySem.W.Frag) (C : Addr) (m : Str) (f : Addr) : Prop where
  at_ : PySem.W.findIn K (.ref C) m = some (some (.ref f))
  fn : PySem.W.isFn K (.ref f) = true
  kp : PySem.W.keepIn K (.ref f) = true

section
variable {X : Cx} {pins : List (Addr × Obj)} {σ : St} {H : Hp} {s : Shared} {a C dx : Addr} {fs : List (Str × V)} {f : Str} {v : V} {A : Around} {E : Value → Shared → Prop}

theorem getattr_ok {b : Bool} {Q : Value → Shared → Prop} (I : Inv X pins σ H s) (e : H a = some (.ins C dx fs)) (c : Cls X.K C) (n : NoAttr X.K C f) (l : fs.lookup f = some v)
    (h : ∀ u s', Inv X pins σ H s' → RelV v u → Q u s') : wpAny (model X.prog X.w) A (getAttr (.ref a) f b) Q E s := by
  obtain ⟨mA, O, r, _, _, _⟩ := ins_get I.hok e
  obtain ⟨u, hu, ru⟩ := RelO.some_of (v := v) (o := mA f) (by rw [← l]; exact r f)
  exact get_map I.kIn O (c.get f) c.hd n hu (handed_of ru) (h u _ (I.tok _) ru)


theorem getmeth_ok {m : Str} {g : Addr} {pl : Sem Bool} {Q : Value × List Value → Shared → Prop} (I : Inv X pins σ H s) (e : H a = some (.ins C dx fs)) (c : Cls X.K C) (k : Meth X.K C m g) (l : fs.lookup m = none)
    (h : Q (.ref g, [.ref a]) s) : wpAny (model X.prog X.w) A (getMethod (.ref a) m pl) Q E s := by
  obtain ⟨mA, O, r, _, _, _⟩ := ins_get I.hok e
  have hn : mA m = none := RelO.none_of (by rw [← l]; exact r m)
  exact get_meth I.kIn O (c.get m) k.at_ k.fn hn h

theorem setattr_ok {y : V} {u : Value} {Q : Unit → Shared → Prop} (I : Inv X pins σ H s) (e : H a = some (.ins C dx fs)) (c : Cls X.K C) (n : NoAttr X.K C f) (hl : fs.length < 1000) (ry : RelV y u)
    (h : ∀ s', Inv X pins σ (upd H a (.ins C dx (putF f y fs))) s' → Q () s') : wpAny (model X.prog X.w) A (setAttr (.ref a) f u) Q E s := by
  obtain ⟨mA, O, r, wi, _, ho⟩ := ins_get I.hok e
  have hz : (fs.map (·.1)).length ≤ sizeLine := by rw [List.length_map, sizeLine_eq]; omega
  refine set_map I.kIn O c.sa c.po n.taker c.hd wi hz fun h' O' sb => h _ ?_
  have hd : ∃ o, h'.get? dx = some o := let ⟨o, _, _, e', _⟩ := O'.ns; ⟨o, e'⟩
  refine I.write (x := a) (e := dx) (by rw [e]; exact True.intro) (.inr ho) (fun b q hb z => (sb.2 b hb).trans z) hd ?_
  refine ⟨by rw [upd_ne O.ne]; exact ho, ?_, O.ne, O'.obj, _, O'.ns, fun g => ?_, fun g hg => ?_⟩
  · have := length_putF f y fs; omega
  · show RelO ((putF f y fs).lookup g) (if g = f then some u else mA g)
    rw [lookup_putF]
    by_cases q : g = f
    · rw [if_pos q, if_pos q]; exact ry
    · rw [if_neg q, if_neg q]; exact r g
  · by_cases q : g = f
    · rw [q]; exact (keys_putF f y fs).1
    · refine (keys_putF f y fs).2 g (wi g fun z => hg ?_)
      show (if g = f then some u else mA g) = none
      rw [if_neg q]; exact z

/-- a new instance, tracked, without attributes -/
theorem Inv.made (I : Inv X pins σ H s) : Inv X pins σ (upd (upd H s.heap.objs.size (.own (s.heap.objs.size + 1))) (s.heap.objs.size + 1) (.ins C s.heap.objs.size []))
    { s with heap := (s.heap.push PySem.W.emptyDict).push (PySem.W.instObj C s.heap.objs.size) } := by
  have e1 : (s.heap.push PySem.W.emptyDict).get? s.heap.objs.size = some PySem.W.emptyDict := Heap.get?_push_size s.heap rfl
  have e2 : ((s.heap.push PySem.W.emptyDict).push (PySem.W.instObj C s.heap.objs.size)).get? (s.heap.objs.size + 1) = some (PySem.W.instObj C s.heap.objs.size) := by
    have := Heap.get?_push_size (s.heap.push PySem.W.emptyDict) (o := PySem.W.instObj C s.heap.objs.size) rfl
    rwa [Heap.size_push] at this
  have e3 : (s.heap.push PySem.W.emptyDict).Ns s.heap.objs.size (fun _ => none) := ⟨PySem.W.emptyDict, #[], _, e1, rfl, (fun e he => absurd he (by simp)), fun _ => rfl⟩
  have I1 := I.laid (a := s.heap.objs.size) (o := .own (s.heap.objs.size + 1)) (h' := s.heap.push PySem.W.emptyDict) (t' := s.toks) (fun b u q => Heap.get?_push_of_some _ q) (Nat.le_refl _) ⟨_, e1⟩
  refine I1.laid (a := s.heap.objs.size + 1) (o := .ins C s.heap.objs.size []) (t' := s.toks) (fun b u q => Heap.get?_push_of_some _ q) (Nat.le_of_eq (Heap.size_push _ _)) ?_
  have ne : s.heap.objs.size ≠ s.heap.objs.size + 1 := Nat.ne_of_lt (Nat.lt_succ_self _)
  refine ⟨by rw [upd_ne ne, upd_same], Nat.zero_le _, ne, e2, fun _ => none, (Heap.Ns1.of_empty e3).at fun o q => Heap.get?_push_of_some _ q, fun _ => True.intro, fun y hy => absurd rfl hy⟩

/-- e.f where nothing but the object is asked: through attributeBase (super) and the last hold -/
theorem attr_of {prog : Program} {w : World} {env : Env} {e : Expr} {f : Str} {pos : Pos} {s : Shared} {Q : Value → Shared → Prop} (hb : attributeBase e f env (eval e env) = eval e env)
    (h : wpAny (model prog w) A (eval e env) (fun o s₁ => wpAny (model prog w) A (getAttr o f true) Q E s₁) E s) : wpAny (model prog w) A (eval (.Attribute e f pos) env) Q E s :=
  Attribute_any_ h (by rw [arm_eval_Attribute, hb])
end

/-! ### readings and rules -/
/-- e.f, an attribute of the instance -/
def tFld (K : PySem.W.Frag) (ta : TE) (f : Str) : TE := fun σ H Q => ta σ H fun x H1 => ∃ a C dx fs v, x = .ref a ∧ H1 a = some (.ins C dx fs) ∧ Cls K C ∧ NoAttr K C f ∧ fs.lookup f = some v ∧ Q v H1
/-- e.f = value -/
def sFld (K : PySem.W.Frag) (ta tv : TE) (f : Str) : TS := fun D σ H => tv σ H fun y H1 => ta σ H1 fun x H2 => ∃ a C dx fs, x = .ref a ∧ H2 a = some (.ins C dx fs) ∧ Cls K C ∧ NoAttr K C f ∧ fs.length < 1000 ∧
  D.nx σ (upd H2 a (.ins C dx (putF f y fs)))

section
variable {X : Cx} {o e value : Expr} {f : Str} {pos pos' tpos : Pos} {ta tv : TE}
theorem pe_fld (he : PE X e ta) (hb : attributeBase e f X.env (eval e X.env) = eval e X.env) : PE X (.Attribute e f pos) (tFld X.K ta f) := by
  intro pins s σ H Q I h
  refine attr_of hb (thn (he pins s σ H _ I h) fun u s1 ⟨x, H1, I1, rx, a, C, dx, fs, v, ex, ea, c, n, l, q⟩ => ?_)
  subst ex
  obtain rfl : u = Value.ref a := rx
  exact getattr_ok I1 ea c n l fun u' s2 I2 ru => ⟨v, H1, I2, ru, q⟩
theorem ps_fld (ha : PE X o ta) (hv : PE X value tv) (hs : swapsWith value (some (.Attribute o f pos')) pos.line X.env = pure false) : PS X (.Assign [.Attribute o f pos'] value pos) (sFld X.K ta tv f) := by
  intro pins s σ H D I h
  refine plainObj_wpAny_Assign_Attribute (thn (hv pins s σ H _ I h) fun u s1 ⟨y, H1, I1, ry, q⟩ => thn (ha pins s1 σ H1 _ I1 q) fun ov s2 ⟨x, H2, I2, rx, a, C, dx, fs, ex, ea, c, n, l, q2⟩ => ?_) hs
  subst ex
  obtain rfl : ov = Value.ref a := rx
  exact setattr_ok I2 ea c n l ry fun s3 I3 => ⟨σ, _, I3, q2⟩

end

/-! ### isinstance -/
section
variable {X : Cx} {pins : List (Addr × Obj)} {σ : St} {H : Hp} {s : Shared} {A : Around} {E : Value → Shared → Prop} {Q : Value → Shared → Prop} {c : Value} {b : Bool}
end
end L2

namespace L2
open PySem PySem.Spec PyProof.Rows

/-! ### room -/
structure Room (k : Nat) (A : Around) : Prop where
  hd : A.handled = none
  dp : A.depth + 3 * k + 5 < recursionLimit
  un : A.units + 16 * k + 200 < cLine
theorem Room.mono {j k : Nat} {A : Around} (r : Room k A) (h : j ≤ k) : Room j A := ⟨r.hd, by have := r.dp; omega, by have := r.un; omega⟩
theorem Room.deeper {k : Nat} {A : Around} (r : Room (k + 1) A) (env : Env) : Room k (A.deeper env) :=
  ⟨r.hd, by have := r.dp; show A.depth + 1 + 3 * k + 5 < _; omega, by have := r.un; show A.units + 3 + 16 * k + 200 < _; omega⟩
theorem make_depth {A : Around} {C : Addr} {us : List Value} {kw : List (Str × Value)} : (A.under (.builtin "type.__call__" ⟨.ref C :: us, kw⟩)).depth = A.depth + 1 := by
  first | rfl | simp [Around.under, Code.weight, Code.isCreation, Code.isGuard, Code.isCaller, Code.frames, Code.isFrame, guardIds]
theorem make_units {A : Around} {C : Addr} {us : List Value} {kw : List (Str × Value)} : (A.under (.builtin "type.__call__" ⟨.ref C :: us, kw⟩)).units = A.units + 1 := by
  first | rfl | simp [Around.under, Code.cUnits, Code.frames, Code.isFrame]
theorem Room.make {k : Nat} {A : Around} (r : Room (k + 1) A) (C : Addr) (us : List Value) (kw : List (Str × Value)) : Room k (A.under (.builtin "type.__call__" ⟨.ref C :: us, kw⟩)) :=
  ⟨r.hd, by have := r.dp; rw [make_depth]; omega, by have := r.un; rw [make_units]; omega⟩
theorem Room.depth {k : Nat} {A : Around} (r : Room k A) : A.depth < recursionLimit := by have := r.dp; omega

/-! ### argument lists and displays -/
def tNil : TA := fun _ H Q => Q [] H
def tCons (ta : TE) (tr : TA) : TA := fun σ H Q => ta σ H fun x H1 => tr σ H1 fun xs H2 => Q (x :: xs) H2
section
variable {X : Cx} {e : Expr} {es : List Expr} {te : TE} {t : TA} {pos : Pos}
theorem pa_nil : PA X [] tNil := fun _ _ _ _ H Q I h => Calls.spliced_nil ⟨[], H, I, .nil, h⟩
theorem pa_cons (ha : PE X e te) (hr : PA X es t) (hs : starEach (e :: es) X.env = (false, eval e X.env) :: starEach es X.env := by rfl) : PA X (e :: es) (tCons te t) := by
  intro pos pins s σ H Q I h
  rw [hs]
  show wpAny _ _ (spliced ((false, eval e X.env) :: backTo pos (starEach es X.env))) _ _ s
  refine Calls.spliced_cons (thn (ha pins s σ H _ I h) fun u s1 ⟨x, H1, I1, r1, q1⟩ => ?_)
  exact thn (hr pos pins s1 σ H1 _ I1 q1) fun us s2 ⟨xs, H2, I2, r2, q2⟩ => ⟨x :: xs, H2, I2, .cons r1 r2, q2⟩

def tLst (t : TA) : TE := fun σ H Q => t σ H fun xs H1 => xs.length ≤ sizeLine ∧ ∀ p, H1 p = none → Q (.ref p) (upd H1 p (.lst xs))
theorem pe_lst (h : PA X es t) : PE X (.List es pos) (tLst t) := by
  intro pins s σ H Q I hq
  refine wpAny_List_spliced (thn (h pos pins s σ H _ I hq) fun us s1 ⟨xs, H1, I1, r, z, q⟩ => ⟨by rw [← r.length]; exact z, ?_⟩)
  have hf : H1 s1.heap.objs.size = none := I1.hok.fresh (Nat.le_refl _)
  refine ⟨.ref s1.heap.objs.size, upd H1 s1.heap.objs.size (.lst xs), I1.laid (t' := s1.toks) (fun b u e => Heap.get?_push_of_some _ e) (Nat.le_refl _) ?_, rfl, q _ hf⟩
  exact ⟨z, us, 0, r, Heap.get?_push_size _ rfl⟩
end

/-! ### what a def promises -/
/-- a def's promise: the bound arguments in the parameters' order, the heap, the wanted end, the wanted exception -/
abbrev Sp := List V → Hp → VK → XK → Prop
/-- how an exception lies behind a call (file 08 gives it): the callers' frames, abstract heap and state ahead of the call, the wish, the exception, the state -/
abbrev CXT := List Env → Hp → Shared → XK → Value → Shared → Prop

/-- the state at a call -/
structure Env0 (P : Program) (w : World) (K : PySem.W.Frag) (mg : Str → Option Value) (base : Heap) (A : Around) (outer : List Env) (s : Shared) (H : Hp) : Prop where
  frames : A.frames = some outer
  mod : Mod K mg base
  bs : ∀ b o, base.get? b = some o → s.heap.get? b = some o ∧ H b = none
  bsz : base.objs.size ≤ s.heap.objs.size
  funs : s.heap.FunFrames base outer
  frf : ∀ b ∈ frs outer, H b = none
  hok : HOk P w H s.heap
  bare : AllBare s.gens
/-- a call's end -/
def CE (outer : List Env) (P : Program) (w : World) (H : Hp) (s : Shared) (Q : VK) (u : Value) (s' : Shared) : Prop :=
  ∃ v H', s'.os = s.os ∧ AllBare s'.gens ∧ Un (frs outer) [] H H' s.heap s'.heap ∧ HOk P w H' s'.heap ∧ RelV v u ∧ Q v H'
def CR (CX : CXT) (outer : List Env) (P : Program) (w : World) (H : Hp) (s : Shared) (Q : VK) (E : XK) (r : Result) (s' : Shared) : Prop :=
  match r with
  | .ok (.ret u) => CE outer P w H s Q u s'
  | .ok _ => False
  | .error e => CX outer H s E e s'
structure FnOk (P : Program) (w : World) (K : PySem.W.Frag) (mg : Str → Option Value) (base : Heap) (CX : CXT) (k : Nat) (f : Addr) (fd : FuncData) (ps : List Str) (sp : Sp) : Prop where
  len : ∀ vs H Q E, sp vs H Q E → vs.length = ps.length
  run : ∀ (A : Around) (outer : List Env) (s : Shared) (H : Hp) (args : Args) (us : List Value) (vs : List V) (Q : VK) (E : XK), Room k A → Env0 P w K mg base A outer s H → BindsTo s fd args (ps.zip us) → Vals vs us → sp vs H Q E →
    codeAny (model P w) A (.call (.ref f) args) (CR CX outer P w H s Q E) s

theorem Env0.make {P : Program} {w : World} {K : PySem.W.Frag} {mg : Str → Option Value} {base : Heap} {A : Around} {outer : List Env} {s : Shared} {H : Hp} (e : Env0 P w K mg base A outer s H) (C : Addr) (us : List Value) (kw : List (Str × Value)) :
    Env0 P w K mg base (A.under (.builtin "type.__call__" ⟨.ref C :: us, kw⟩)) outer s H := ⟨by first | exact e.frames | (simpa [Around.under, Code.envs, Code.isFrame, pushEnvs] using e.frames), e.mod, e.bs, e.bsz, e.funs, e.frf, e.hok, e.bare⟩

section
variable {X : Cx} {pins : List (Addr × Obj)} {σ : St} {H : Hp} {s s' : Shared}
/-- from a body: what a callee wants -/
theorem Inv.env0 (I : Inv X pins σ H s) : Env0 X.prog X.w X.K X.mg X.base X.A X.stack s H :=
  ⟨I.ok.frames, I.ok.mod, I.bs, Nat.le_trans I.ok.bsz I.sz, I.stack, I.stkFree, I.hok, I.bare⟩
/-- behind a call -/
theorem Inv.after {Q : VK} {u : Value} (I : Inv X pins σ H s) (h : CE X.stack X.prog X.w H s Q u s') : EP X pins σ Q u s' := by
  obtain ⟨v, H', os, bare, un, hok, r, q⟩ := h
  obtain ⟨hh, g, d, t, os'⟩ := s'
  obtain rfl : os' = s.os := os
  exact ⟨v, H', I.call (h' := hh) (g' := g) (d' := d) (t' := t) (ch := []) un hok bare (fun b z => absurd z (by simp)), r, q⟩
end

/-! ### calls -/
/-- f(..): the written arguments, then the defaults dvs; E: what is wanted of an exception -/
def tCall (sp : Sp) (dvs : List V) (E : XK) (t : TA) : TE := fun σ H Q => t σ H fun vs H1 => sp (vs ++ dvs) H1 Q E
/-- o.m(..) of an instance of the class at C -/
def tMeth (C : Addr) (m : Str) (sp : Sp) (dvs : List V) (E : XK) (ta : TE) (t : TA) : TE := fun σ H Q => ta σ H fun x H1 => ∃ a dx fs, x = .ref a ∧ H1 a = some (.ins C dx fs) ∧ fs.lookup m = none ∧
  t σ H1 fun vs H2 => sp (x :: (vs ++ dvs)) H2 Q E
/-- C(..): a new instance and its dict, then __init__ -/
def tMake (C : Addr) (sp : Sp) (dvs : List V) (E : XK) (t : TA) : TE := fun σ H Q => t σ H fun vs H1 => ∀ x dx, H1 x = none → H1 dx = none → dx ≠ x →
  sp (.ref x :: (vs ++ dvs)) (upd (upd H1 dx (.own x)) x (.ins C dx [])) (fun v H2 => v = .non ∧ Q (.ref x) H2) E

/-- how the parameters are bound: us the positional arguments, kw the keywords' values by name, ds the defaults that fill up -/
def Binds (K : PySem.W.Frag) (fd : FuncData) (ps : List Str) (ds : List Value) : Prop :=
  ∀ (s : Shared) (us : List Value), K.In s.heap → (us ++ ds).length = ps.length → BindsTo s fd ⟨us, []⟩ (ps.zip (us ++ ds))
/-- every parameter is given -/
theorem Binds.all {K : PySem.W.Frag} {fd : FuncData} {ps : List Str} (h : ∀ us : List Value, us.length = ps.length → bindArgs fd ⟨us, []⟩ = pure (ps.zip us)) : Binds K fd ps [] := fun s us _ hl => by
  rw [List.append_nil] at hl ⊢
  exact .of_eq (h us hl)

/-- an exception of a callee reaches what this body wants of exceptions -/
def Passes (CX : CXT) (X : Cx) (E : XK) : Prop := ∀ (pins : List (Addr × Obj)) (σ : St) (H : Hp) (s : Shared) (e : Value) (s' : Shared), Inv X pins σ H s → CX X.stack H s E e s' → X.xe e s'

section
variable {X : Cx} {CX : CXT} {k : Nat} {f C : Addr} {fd : FuncData} {ps : List Str} {sp : Sp} {dvs : List V} {ds : List Value} {E : XK} {x m : Str} {p pos apos : Pos} {e o : Expr} {es : List Expr} {ta : TE} {t : TA}

/-- the callee runs -/
theorem run_fn {pins : List (Addr × Obj)} {σ : St} {H : Hp} {s : Shared} {Q : VK} {us : List Value} {vs : List V} (F : FnOk X.prog X.w X.K X.mg X.base CX k f fd ps sp) (hr : Room k X.A) (hb : Binds X.K fd ps ds) (hd : Vals dvs ds) (hx : Passes CX X E)
    (I : Inv X pins σ H s) (r : Vals vs us) (h : sp (vs ++ dvs) H Q E) : wpAny (model X.prog X.w) X.A (call (.ref f) us) (EP X pins σ Q) X.xe s := by
  have r2 : Vals (vs ++ dvs) (us ++ ds) := r.append hd
  have hl : (us ++ ds).length = ps.length := by rw [← r2.length]; exact F.len _ _ _ _ h
  refine wpAny_call (codeAny_mono (F.run X.A X.stack s H ⟨us, []⟩ (us ++ ds) (vs ++ dvs) Q E hr I.env0 (hb s us I.kIn hl) r2 h) fun r s' hq => ?_)
  cases r with
  | error e => exact hx pins σ H s e s' I hq
  | ok fl =>
    cases fl with
    | ret u => exact I.after hq
    | next => exact False.elim hq
    | brk => exact False.elim hq
    | cont => exact False.elim hq

theorem pe_call (F : FnOk X.prog X.w X.K X.mg X.base CX k f fd ps sp) (hr : Room k X.A) (hg : Gl X x) (hm : X.mg x = some (.ref f)) (hk : PySem.W.keepIn X.K (.ref f) = true) (hb : Binds X.K fd ps ds) (hd : Vals dvs ds) (hx : Passes CX X E)
    (ha : PA X (e :: es) t) (hdb : (x == ("__debug__" : Str)) = false := by decide) (he : starEach (e :: es) X.env = (false, eval e X.env) :: starEach es X.env := by rfl) (hpl : (backTo pos (starEach es X.env)).any (·.1) = false := by rfl) :
    PE X (.Call (.Name x p) (e :: es) [] pos) (tCall sp dvs E t) := by
  intro pins s σ H Q I h
  refine wpAny_Call_Name_kw (ld_glob I hg hm ?_ hdb)
  refine PySem.W.callWith_K (h₀ := X.base) I.ok.mod.kin hk (thn (ha pos pins s σ H _ I h) fun us s1 ⟨vs, H1, I1, r, q⟩ => ⟨I1.kIn, ?_⟩) he hpl
  exact run_fn F hr hb hd hx I1 r q

/-- o.m(e, ..) -/
theorem pe_meth {pl : Sem Bool} (he : PE X o ta) (c : Cls X.K C) (hm : Meth X.K C m f) (F : FnOk X.prog X.w X.K X.mg X.base CX k f fd ps sp) (hr : Room k X.A) (hb : Binds X.K fd ps ds) (hd : Vals dvs ds) (hx : Passes CX X E) (ha : PA X (e :: es) t)
    (hst : starEach (e :: es) X.env = (false, eval e X.env) :: starEach es X.env := by rfl) (hpl : (backTo pos (starEach es X.env)).any (·.1) = false := by rfl)
    (ht : eval (.Call (.Attribute o m apos) (e :: es) [] pos) X.env = (do
      let ov ← eval o X.env
      standAt apos.atName
      let (f, first) ← holding [ov] (getMethod ov m pl)
      callWith pos f first (backTo pos (starEach (e :: es) X.env)) (backToKw pos (keywordEach [] X.env))) := by rfl) :
    PE X (.Call (.Attribute o m apos) (e :: es) [] pos) (tMeth C m sp dvs E ta t) := by
  intro pins s σ H Q I h
  refine PySem.W.methodCall_KW (pl := pl) (thn (he pins s σ H _ I h) fun u s1 ⟨x, H1, I1, rx, a, dx, fs, ex, ea, l, q⟩ => ?_) ht
  subst ex
  obtain rfl : u = Value.ref a := rx
  refine getmeth_ok I1 ea c hm l ?_
  refine PySem.W.callWith_K (first := [.ref a]) (h₀ := X.base) I.ok.mod.kin hm.kp (thn (ha pos pins s1 σ H1 _ I1 q) fun us s2 ⟨vs, H2, I2, r, q2⟩ => ⟨I2.kIn, ?_⟩) hst hpl
  exact run_fn (us := .ref a :: us) (vs := .ref a :: vs) F hr hb hd hx I2 (.cons rfl r) q2
/-- o.m() -/
theorem pe_meth0 {pl : Sem Bool} (he : PE X o ta) (c : Cls X.K C) (hm : Meth X.K C m f) (F : FnOk X.prog X.w X.K X.mg X.base CX k f fd ps sp) (hr : Room k X.A) (hb : Binds X.K fd ps ds) (hd : Vals dvs ds) (hx : Passes CX X E)
    (ht : eval (.Call (.Attribute o m apos) [] [] pos) X.env = (do
      let ov ← eval o X.env
      standAt apos.atName
      let (f, first) ← holding [ov] (getMethod ov m pl)
      callWith pos f first (backTo pos (starEach [] X.env)) (backToKw pos (keywordEach [] X.env))) := by rfl) :
    PE X (.Call (.Attribute o m apos) [] [] pos) (tMeth C m sp dvs E ta tNil) := by
  intro pins s σ H Q I h
  refine PySem.W.methodCall_KW (pl := pl) (thn (he pins s σ H _ I h) fun u s1 ⟨x, H1, I1, rx, a, dx, fs, ex, ea, l, q⟩ => ?_) ht
  subst ex
  obtain rfl : u = Value.ref a := rx
  refine getmeth_ok I1 ea c hm l ?_
  exact PySem.W.callWith_K0 (first := [.ref a]) I1.kIn hm.kp (run_fn (us := [.ref a]) (vs := [.ref a]) F hr hb hd hx I1 (.cons rfl .nil) q)

/-- what a class must have to be made -/
structure Mk (K : PySem.W.Frag) (C f : Addr) : Prop where
  makes : PySem.W.makesIn K C = true
  init : PySem.W.findIn K (.ref C) "__init__" = some (some (.ref f))
  fn : PySem.W.isFn K (.ref f) = true
  kp : PySem.W.keepIn K (.ref C) = true

theorem run_make {pins : List (Addr × Obj)} {σ : St} {H : Hp} {s : Shared} {Q : VK} {us : List Value} {vs : List V} (M : Mk X.K C f) (F : FnOk X.prog X.w X.K X.mg X.base CX k f fd ps sp) (hr : Room (k + 1) X.A) (hb : Binds X.K fd ps ds) (hd : Vals dvs ds)
    (hx : Passes CX X E) (I : Inv X pins σ H s) (r : Vals vs us)
    (h : ∀ x dx, H x = none → H dx = none → dx ≠ x → sp (.ref x :: (vs ++ dvs)) (upd (upd H dx (.own x)) x (.ins C dx [])) (fun v H2 => v = .non ∧ Q (.ref x) H2) E) :
    wpAny (model X.prog X.w) X.A (call (.ref C) us) (EP X pins σ Q) X.xe s := by
  have hq := h (s.heap.objs.size + 1) s.heap.objs.size (I.hok.fresh (Nat.le_succ _)) (I.hok.fresh (Nat.le_refl _)) (Nat.ne_of_lt (Nat.lt_succ_self _))
  have I2 := Inv.made (C := C) I
  have r2 : Vals (V.ref (s.heap.objs.size + 1) :: (vs ++ dvs)) (Value.ref (s.heap.objs.size + 1) :: (us ++ ds)) := .cons rfl (r.append hd)
  have hl : (Value.ref (s.heap.objs.size + 1) :: us ++ ds).length = ps.length := by
    have e := r2.length
    rw [F.len _ _ _ _ hq] at e
    exact e.symm
  refine wpAny_call (make_map (f := f) I.kIn M.makes M.init (beq_iff_eq.mp M.fn) (codeAny_mono (F.run _ X.stack _ _ ⟨Value.ref (s.heap.objs.size + 1) :: us, []⟩ (Value.ref (s.heap.objs.size + 1) :: (us ++ ds)) _ _ E (hr.make C us [])
    (I2.env0.make C us []) (hb _ (Value.ref (s.heap.objs.size + 1) :: us) I2.kIn hl) r2 hq) fun r s' hq' => ?_))
  cases r with
  | error e => exact hx pins σ _ _ e s' I2 hq'
  | ok fl =>
    cases fl with
    | ret u =>
      obtain ⟨v, H', I3, rv, ev, q3⟩ := I2.after hq'
      subst ev
      exact ⟨rv, ⟨V.ref (s.heap.objs.size + 1), H', I3, rfl, q3⟩⟩
    | next => exact False.elim hq'
    | brk => exact False.elim hq'
    | cont => exact False.elim hq'
theorem pe_make (M : Mk X.K C f) (F : FnOk X.prog X.w X.K X.mg X.base CX k f fd ps sp) (hr : Room (k + 1) X.A) (hg : Gl X x) (hm : X.mg x = some (.ref C)) (hb : Binds X.K fd ps ds) (hd : Vals dvs ds) (hx : Passes CX X E)
    (ha : PA X (e :: es) t) (hdb : (x == ("__debug__" : Str)) = false := by decide) (he : starEach (e :: es) X.env = (false, eval e X.env) :: starEach es X.env := by rfl) (hpl : (backTo pos (starEach es X.env)).any (·.1) = false := by rfl) :
    PE X (.Call (.Name x p) (e :: es) [] pos) (tMake C sp dvs E t) := by
  intro pins s σ H Q I h
  refine wpAny_Call_Name_kw (ld_glob I hg hm ?_ hdb)
  refine PySem.W.callWith_K (h₀ := X.base) I.ok.mod.kin M.kp (thn (ha pos pins s σ H _ I h) fun us s1 ⟨vs, H1, I1, r, q⟩ => ⟨I1.kIn, ?_⟩) he hpl
  exact run_make M F hr hb hd hx I1 r q
theorem pe_make0 (M : Mk X.K C f) (F : FnOk X.prog X.w X.K X.mg X.base CX k f fd ps sp) (hr : Room (k + 1) X.A) (hg : Gl X x) (hm : X.mg x = some (.ref C)) (hb : Binds X.K fd ps ds) (hd : Vals dvs ds) (hx : Passes CX X E)
    (hdb : (x == ("__debug__" : Str)) = false := by decide) : PE X (.Call (.Name x p) [] [] pos) (tMake C sp dvs E tNil) := by
  intro pins s σ H Q I h
  refine wpAny_Call_Name_kw (ld_glob I hg hm ?_ hdb)
  exact PySem.W.callWith_K0 I.kIn M.kp (run_make (us := []) M F hr hb hd hx I .nil h)
end

/-! ### keywords -/
section
variable {X : Cx} {CX : CXT} {k : Nat} {f C : Addr} {fd : FuncData} {ps ks : List Str} {sp : Sp} {E : XK} {x m : Str} {p pos apos kpos : Pos} {e o : Expr} {es : List Expr} {kws : List Keyword} {te ta : TE} {t tk : TA} {nm : Option Str}

variable {g : List Value → List Value → List Value} {gV : List V → List V → List V}
end

/-! ### a def's body keeps its promise -/
/-- names: the parameters first -/
structure FnScope (N P : List Str) (sc : Scope) : Prop where
  kind : sc.kind = .function
  co : sc.isCoroutine = false
  gen : sc.isGenerator = false
  nd : N.Nodup
  pre : N.take P.length = P
  par : ∀ x ∈ P, sc.names.lookup x = some .local ∨ sc.names.lookup x = some .cell
  nofree : ∀ y ∈ sc.names, y.2 ≠ .free

theorem bindL_out {kindOf : Str → Option NameKind} {x : Str} : ∀ {binds : List (Str × Value)} {m : Str → Option Value}, (∀ v, (x, v) ∉ binds) → bindL kindOf binds m x = m x
  | [], _, _ => rfl
  | (n, v) :: r, m, h => by
    unfold bindL
    rw [bindL_out fun w hw => h w (List.mem_cons_of_mem _ hw)]
    split
    · have : x ≠ n := by rintro rfl; exact h v List.mem_cons_self
      simp [this]
    · rfl
theorem bindC_out {kindOf : Str → Option NameKind} {x : Str} : ∀ {binds : List (Str × Value)} {m : Str → Option Value}, (∀ v, (x, v) ∉ binds) → bindC kindOf binds m x = m x
  | [], _, _ => rfl
  | (n, v) :: r, m, h => by
    unfold bindC
    rw [bindC_out fun w hw => h w (List.mem_cons_of_mem _ hw)]
    split
    · rfl
    · have : x ≠ n := by rintro rfl; exact h v List.mem_cons_self
      simp [this]
theorem bindL_get {kindOf : Str → Option NameKind} {x : Str} {v : Value} : ∀ {P : List Str} {vs : List Value} {i : Nat} {m : Str → Option Value}, P.Nodup → P[i]? = some x → vs[i]? = some v → kindOf x = some .local →
    bindL kindOf (P.zip vs) m x = some v
  | [], _, _, _, _, h, _, _ => by simp at h
  | _ :: _, [], _, _, _, _, h, _ => by simp at h
  | p :: P, w :: vs, 0, m, nd, h1, h2, hk => by
    simp at h1 h2; subst h1; subst h2
    show bindL kindOf ((p, w) :: P.zip vs) m p = _
    unfold bindL
    rw [bindL_out fun v hv => (List.nodup_cons.mp nd).1 (List.of_mem_zip hv).1, if_pos hk]
    simp
  | p :: P, w :: vs, i + 1, m, nd, h1, h2, hk => by
    show bindL kindOf ((p, w) :: P.zip vs) m x = _
    unfold bindL
    exact bindL_get (i := i) (List.nodup_cons.mp nd).2 (by simpa using h1) (by simpa using h2) hk
theorem bindC_get {kindOf : Str → Option NameKind} {x : Str} {v : Value} : ∀ {P : List Str} {vs : List Value} {i : Nat} {m : Str → Option Value}, P.Nodup → P[i]? = some x → vs[i]? = some v → kindOf x ≠ some .local →
    bindC kindOf (P.zip vs) m x = some v
  | [], _, _, _, _, h, _, _ => by simp at h
  | _ :: _, [], _, _, _, _, h, _ => by simp at h
  | p :: P, w :: vs, 0, m, nd, h1, h2, hk => by
    simp at h1 h2; subst h1; subst h2
    show bindC kindOf ((p, w) :: P.zip vs) m p = _
    unfold bindC
    rw [bindC_out fun v hv => (List.nodup_cons.mp nd).1 (List.of_mem_zip hv).1, if_neg hk]
    simp
  | p :: P, w :: vs, i + 1, m, nd, h1, h2, hk => by
    show bindC kindOf ((p, w) :: P.zip vs) m x = _
    unfold bindC
    exact bindC_get (i := i) (List.nodup_cons.mp nd).2 (by simpa using h1) (by simpa using h2) hk

/-- the names' values at the entry -/
def start (N : List Str) (vs : List V) : St := vs.map some ++ List.replicate (N.length - vs.length) none

/-- the context of a def's body, at its entry; an exception leaves the frame, then lies as CX says -/
def cxOf (CX : CXT) (P : Program) (w : World) (K : PySem.W.Frag) (mg : Str → Option Value) (base : Heap) (N : List Str) (qual : Str) (scope : Scope) (f : Addr) (cd : Value) (A : Around) (outer : List Env) (s : Shared) (H : Hp) (E : XK) : Cx where
  prog := P
  w := w
  K := K
  mg := mg
  base := base
  A := A.deeper (envOfC qual scope s.heap.objs.size f cd)
  N := N
  s_0 := s
  H_0 := H
  env := envOfC qual scope s.heap.objs.size f cd
  outer := outer
  stack := envOfC qual scope s.heap.objs.size f cd :: outer
  ex := []
  calm := true
  fn := fun _ => true
  pn := []
  xe := fun e s' => wpAny (model P w) (A.deeper (envOfC qual scope s.heap.objs.size f cd)) (leaving (envOfC qual scope s.heap.objs.size f cd) e) (fun _ s'' => CX outer H s E e s'') (fun e' s'' => CX outer H s E e' s'') s'

theorem cell_has {sc : Scope} {n : Nat} {x : Str} (h : sc.names.lookup x = some .cell) : ∃ c, (cellsFrom n sc.names []).lookup x = some c := by
  have q := PySem.W.cellsFrom_some sc.names n [] (.inl h)
  exact Option.isSome_iff_exists.mp q

theorem inv_start {CX : CXT} {P : Program} {w : World} {K : PySem.W.Frag} {mg : Str → Option Value} {base : Heap} {N ps : List Str} {qual : Str} {scope : Scope} {f : Addr} {cd : Value} {A : Around} {outer : List Env} {s s1 : Shared} {H : Hp} {E : XK} {us : List Value} {vs : List V}
    (S : FnScope N ps scope) (hd : A.handled = none) (e0 : Env0 P w K mg base A outer s H) (hl : vs.length = ps.length) (r : Vals vs us)
    (x : InCallC s s.heap.objs.size (bindL (envOfC qual scope s.heap.objs.size f cd).kindOf (ps.zip us) fun _ => none) (cellsFrom (s.heap.objs.size + 1) scope.names []) (bindC (envOfC qual scope s.heap.objs.size f cd).kindOf (ps.zip us) fun _ => none) s1) :
    Inv (cxOf CX P w K mg base N qual scope f cd A outer s H E) [] (start N vs) H s1 := by
  have hpl : ps.length ≤ N.length := by have := congrArg List.length S.pre; rw [List.length_take] at this; omega
  obtain ⟨h1, tk, rfl, hk⟩ := x.done
  have noA : ∀ b : Addr, b ∉ (cxOf CX P w K mg base N qual scope f cd A outer s H E).ex := fun b z => absurd (show b ∈ ([] : List Addr) from z) (by simp)
  refine ⟨⟨e0.mod, S.kind, rfl, rfl, Nat.le_refl _, fun y z c h1 h2 => ?_, fun y hy => ?_, fun y c _ h => ?_, fun _ => hd, Around.frames_deeper e0.frames, .inr ⟨rfl, rfl⟩, fun b z => absurd z (noA b), e0.bs, e0.bsz, fun b _ _ => noA b, fun b z => absurd z (noA b), e0.funs, e0.frf⟩,
    rfl, e0.bare, Un.kept hk, ⟨_, x.toInCall.ns, fun i y v h1 h2 h3 => ?_⟩, fun y c h => ⟨_, x.cell y c h⟩, e0.hok.fresh (Nat.le_refl _), fun y c h => ?_, fun p hp => absurd (show p ∈ ([] : List (Addr × Obj)) from hp) (by simp), e0.hok.kept hk, ?_⟩
  · exact name_of_addr x.apart (PySem.mem_of_lookup h1) (PySem.mem_of_lookup h2)
  · have hy : scope.names.lookup y = some .cell ∨ scope.names.lookup y = some .free := hy
    rcases hy with hy | hy
    · exact cell_has hy
    · exact absurd rfl (S.nofree _ (PySem.mem_of_lookup hy))
  · exact Nat.le_of_lt (x.above y c (PySem.mem_of_lookup h))
  · have hi : i < vs.length := by
      unfold start at h2
      by_cases hi : i < vs.length
      · exact hi
      · rw [List.getElem?_append_right (by simpa using hi)] at h2
        rw [List.getElem?_replicate] at h2
        split at h2 <;> cases h2
    have ha : vs[i]? = some v := by
      unfold start at h2
      rw [List.getElem?_append_left (by simpa using hi), List.getElem?_map] at h2
      cases e : vs[i]? with
      | none => rw [e] at h2; cases h2
      | some a => rw [e] at h2; cases h2; rfl
    obtain ⟨u, hu, rv⟩ := r.get ha
    have hp : ps[i]? = some y := by
      rw [← S.pre, List.getElem?_take_of_lt (by omega)]; exact h1
    have ndP : ps.Nodup := by rw [← S.pre]; exact S.nd.sublist (List.take_sublist _ _)
    refine ⟨u, rv, ?_⟩
    rcases S.par y (List.mem_of_getElem? hp) with k | k
    · exact .inl ⟨k, bindL_get ndP hp hu k⟩
    · obtain ⟨c, e⟩ := cell_has (n := s.heap.objs.size + 1) k
      refine .inr ⟨.inl k, c, e, ?_⟩
      have q := x.cell y c e
      rw [bindC_get ndP hp hu (by show scope.names.lookup y ≠ _; rw [k]; decide)] at q
      exact q
  · exact e0.hok.fresh (Nat.le_of_lt (x.above y c (PySem.mem_of_lookup h)))
  · unfold start
    show _ = N.length
    rw [List.length_append, List.length_map, List.length_replicate]
    omega

/-- THE RULE: a def (or a method) of the text, by its body. The body's reading t is chosen for each entry; it is run at the parameters' values -/
theorem fn_of {CX : CXT} {P : Program} {w : World} {K : PySem.W.Frag} {mg : Str → Option Value} {base : Heap} {k : Nat} {f : Addr} {name qual : Str} {params : Arguments} {body : List Stmt} {scope : Scope} {dV kV doc pm cdv ct oc : Value} {an od : Option Addr}
    {osl : Array (Option Value)} {N ps : List Str} {sp : Sp} (lk : K.lookup f = some ⟨oc, od, .func (PySem.W.fnOf name qual params body scope dV kV doc pm an cdv ct), osl⟩) (hcd : PySem.W.codeIn K cdv qual = true) (S : FnScope N ps scope)
    (len : ∀ vs H Q E, sp vs H Q E → vs.length = ps.length)
    (hbody : ∀ (A : Around) (outer : List Env) (s : Shared) (H : Hp) (vs : List V) (Q : VK) (E : XK), Room k (A.deeper (envOfC qual scope s.heap.objs.size f cdv)) → sp vs H Q E →
      ∃ t, PSs (cxOf CX P w K mg base N qual scope f cdv A outer s H E) body t ∧ t { nx := fun _ H' => Q .non H', rt := Q } (start N vs) H) :
    FnOk P w K mg base CX (k + 1) f (PySem.W.fnOf name qual params body scope dV kV doc pm an cdv ct) ps sp := by
  refine ⟨len, fun A outer s H args us vs Q E hr e0 hb r hsp => ?_⟩
  have hl := len _ _ _ _ hsp
  have KX : K.In s.heap := e0.mod.kin.keeps fun b o e => (e0.bs b o e).1
  have lim : s.heap.NoLimit := e0.mod.nolimit.keeps fun b o e => (e0.bs b o e).1
  have hkind : ∀ y ∈ ps.zip us, scope.names.lookup y.1 = some .local ∨ (scope.names.lookup y.1 = some .cell ∧ ((cellsFrom (s.heap.objs.size + 1) scope.names []).lookup y.1).isSome = true) := fun ⟨n, v⟩ hy => by
    rcases S.par n (List.of_mem_zip hy).1 with q | q
    · exact .inl q
    · exact .inr ⟨q, PySem.W.cellsFrom_some _ _ _ (.inl q)⟩
  refine codeAny_call_function hr.depth (KX _ _ lk) rfl S.co S.gen rfl (PySem.W.codeRec_of KX hcd) (hb _ _ _ _ ?_)
  refine wpAny_newFunctionEnv_cells S.kind hkind fun env he s1 x => ?_
  subst he
  refine ⟨lim.keeps x.toInCall.keep, codeAny_func ?_⟩
  obtain ⟨t, ht, hq⟩ := hbody A outer s H vs Q E (hr.deeper _) hsp
  have I : Inv (cxOf CX P w K mg base N qual scope f cdv A outer s H E) [] (start N vs) H s1 := inv_start S hr.hd e0 hl r x
  refine wpAny_mono (ht [] s1 (start N vs) H _ I hq) (fun fl s' hs => ?_) fun e s' hs => hs
  have fin : ∀ {σ' : St} {H' : Hp} {v : V} {u : Value}, Inv (cxOf CX P w K mg base N qual scope f cdv A outer s H E) [] σ' H' s' → RelV v u → Q v H' → CE outer P w H s Q u s' :=
    fun {σ' H' v u} J rv q => ⟨v, H', J.os, J.bare, J.base, J.hok, rv, q⟩
  cases fl with
  | ret u =>
    obtain ⟨v, σ', H', J, rv, q⟩ := hs
    exact fin J rv q
  | next =>
    obtain ⟨σ', H', J, q⟩ := hs
    exact fin (v := V.non) (u := Value.none) J rfl q
  | brk =>
    obtain ⟨_, _, _, q⟩ := hs
    exact False.elim q
  | cont =>
    obtain ⟨_, _, _, q⟩ := hs
    exact False.elim q
end L2

namespace L2
open PySem PySem.Spec PyProof.Rows
section
variable {X : Cx} {x : Str} {p pos : Pos} {e : Expr} {es : List Expr} {t : TA} {id T : String} {r : List V → Hp → VK → Prop}

def tCB (r : List V → Hp → VK → Prop) (t : TA) : TE := fun σ H Q => t σ H fun vs H1 => r vs H1 Q
/-- f(e, ..), f a built-in function -/
theorem pe_callB (hc : CallR X (.builtin id) r) (hg : Gl X x) (hm : X.mg x = none) (hv : bootBuiltins x = some (.builtin id)) (ha : PA X (e :: es) t) (hn : x ≠ "__name__" := by decide) (hdb : (x == ("__debug__" : Str)) = false := by decide)
    (he : starEach (e :: es) X.env = (false, eval e X.env) :: starEach es X.env := by rfl) (hpl : (backTo pos (starEach es X.env)).any (·.1) = false := by rfl) : PE X (.Call (.Name x p) (e :: es) [] pos) (tCB r t) := by
  intro pins s σ H Q I h
  refine wpAny_Call_Name_kw (ld_blt I hg hm hv ?_ hn hdb)
  exact PyProof.Rows.callWith_builtin1 (thn (ha pos pins s σ H _ I h) fun us s1 ⟨vs, H1, I1, r1, q1⟩ => hc pins s1 σ H1 vs us Q I1 r1 q1) he hpl
end
end L2

namespace HT
open PySem PyProof.Rows



section
open PySem.SeqAt
open PySem.AutoSeq1 (wpAny_loadPart')
open PySem.MeetsSeq PySem.MeetsSeq2 PySem.MeetsSeq3

end

section
variable {prog : Program} {w : World} {A : Around} {E : Value → Shared → Prop} {s : Shared}



/-! ### t[a:b], not the whole -/
/-- a slice's bound as a place among n (d where it is left out) -/
def sIx (n d : Nat) : Option Int → Nat
  | none => d
  | some v => if v < 0 then (v + (n : Int)).toNat else min v.toNat n

end
end HT

namespace L2
open PySem PySem.Spec PyProof.Rows

/-! ### the parts of a slice -/
abbrev TO := St → Hp → (Option Int → Hp → Prop) → Prop
/-- a slice's part (left out, or an int) -/
def PO (X : Cx) (e : Option Expr) (t : TO) : Prop :=
  ∀ (pins : List (Addr × Obj)) (s : Shared) (σ : St) (H : Hp) (Q : Option Int → Hp → Prop), Inv X pins σ H s → t σ H Q →
    wpAny (model X.prog X.w) X.A (evalPart e X.env) (fun u s' => ∃ o H', Inv X pins σ H' s' ∧ IsPart u o ∧ Q o H') X.xe s
def tPart (t : TE) : TO := fun σ H Q => t σ H fun x H1 => ∃ i, x = .int i ∧ Q (some i) H1


section
variable {X : Cx} {e : Expr} {te : TE} {lo hi : Option Expr} {tl th : TO} {pos p2 : Pos}

theorem po_some (h : PE X e te) : PO X (some e) (tPart te) := by
  intro pins s σ H Q I hw
  rw [evalPart_some]
  refine thn (h pins s σ H _ I hw) fun u s1 ⟨x, H1, I1, r1, q1⟩ => ?_
  obtain ⟨i, rfl, q⟩ := q1
  obtain ⟨t, rfl⟩ := r1
  exact ⟨some i, H1, I1, .int i t, q⟩

/-- what a slice of a value is, by values: the slice object stands at sl -/
def SlR (X : Cx) (r : V → Option Int → Option Int → Hp → VK → Prop) : Prop :=
  ∀ (pins : List (Addr × Obj)) (s : Shared) (σ : St) (H : Hp) (x : V) (v vl vu : Value) (lo hi : Option Int) (sl : Addr) (Q : VK), Inv X pins σ H s → RelV x v → s.heap.IsSliceOf sl vl vu .none → IsPart vl lo → IsPart vu hi → r x lo hi H Q →
    ∃ T id, typeLookup (.type T) "__getitem__" = pure (some (.builtin id)) ∧ s.TypeIs v T ∧ wpAny (model X.prog X.w) X.A (getItem v (.ref sl)) (EP X pins σ Q) X.xe s
def tSl (r : V → Option Int → Option Int → Hp → VK → Prop) (te : TE) (tl th : TO) : TE := fun σ H Q => te σ H fun x H1 => tl σ H1 fun l H2 => th σ H2 fun u H3 => r x l u H3 Q
/-- a[lo:hi], any a -/
theorem pe_slice {r : V → Option Int → Option Int → Hp → VK → Prop} (hr : SlR X r) (he : PE X e te) (hl : PO X lo tl) (hu : PO X hi th) : PE X (.Subscript e (.Slice lo hi none p2) pos) (tSl r te tl th) := by
  intro pins s σ H Q I h
  refine Subscript_ (thn (he pins s σ H _ I h) fun v s1 ⟨x, H1, I1, r1, q1⟩ => ?_)
  refine wpAny_Slice (thn (hl pins s1 σ H1 _ I1 q1) fun vl s2 ⟨l, H2, I2, pl, q2⟩ => thn (hu pins s2 σ H2 _ I2 q2) fun vu s3 ⟨u, H3, I3, pu, q3⟩ => ?_)
  rw [evalPart_none]
  refine wpAny_pure ?_
  have I4 : Inv X pins σ H3 { s3 with heap := s3.heap.push { cls := .type "slice", data := .fields #[vl, vu, .none] } } := I3.kept (t' := s3.toks) fun b ob q => Heap.get?_push_of_some _ q
  obtain ⟨T, id, hT, ht, hg⟩ := hr pins { s3 with heap := s3.heap.push { cls := .type "slice", data := .fields #[vl, vu, .none] } } σ H3 x v vl vu l u s3.heap.objs.size Q I4 r1 (Heap.IsSliceOf.new ..) pl pu q3
  show wpAny (model X.prog X.w) X.A (subscriptTail e (.Slice lo hi none p2) v (.ref s3.heap.objs.size)) (EP X pins σ Q) X.xe { s3 with heap := s3.heap.push { cls := .type "slice", data := .fields #[vl, vu, .none] } }
  exact tail_any (ops := [.ref s3.heap.objs.size, v]) ht hT hg (by with_unfolding_all rfl)

/-- the items of xs[lo:hi] -/
def cutV (xs : List V) (lo hi : Option Int) : List V := (xs.drop (HT.sIx xs.length 0 lo)).take (HT.sIx xs.length xs.length hi - HT.sIx xs.length 0 lo)
theorem cutV_length (xs : List V) (lo hi : Option Int) : (cutV xs lo hi).length ≤ xs.length := by
  unfold cutV
  rw [List.length_take, List.length_drop]
  omega

/-! ### t < u, t + u -/
end
end L2

namespace L2
open PySem PySem.Spec PyProof.Rows

/-! ### places -/
/-- the place that an index of any sign means -/
def ixN (n : Nat) (i : Int) : Option Nat := if 0 ≤ i then (if i < n then some i.toNat else none) else if -(n : Int) ≤ i then some (i + n).toNat else none
def atI {α : Type} (xs : List α) (i : Int) : Option α := (ixN xs.length i).bind fun j => xs[j]?
theorem ixN_seq {n : Nat} {i : Int} {j : Nat} (h : ixN n i = some j) : seqIndex? i n = some j ∧ j < n ∧ -(n : Int) ≤ i ∧ i < n := by
  unfold ixN at h
  by_cases h0 : 0 ≤ i
  · rw [if_pos h0] at h
    by_cases h1 : i < n
    · rw [if_pos h1] at h
      have e : i.toNat = j := Option.some.inj h
      exact ⟨by rw [seqIndex_of h0 h1, e], by omega, by omega, h1⟩
    · rw [if_neg h1] at h; cases h
  · rw [if_neg h0] at h
    by_cases h1 : -(n : Int) ≤ i
    · rw [if_pos h1] at h
      have e : (i + n).toNat = j := Option.some.inj h
      exact ⟨by rw [seqIndex_neg (by omega) h1, e], by omega, h1, by omega⟩
    · rw [if_neg h1] at h; cases h
theorem atI_get {α : Type} {xs : List α} {i : Int} {v : α} (h : atI xs i = some v) : ∃ j, seqIndex? i xs.length = some j ∧ xs[j]? = some v ∧ j < xs.length ∧ -(xs.length : Int) ≤ i ∧ i < xs.length := by
  unfold atI at h
  cases e : ixN xs.length i with
  | none => rw [e] at h; cases h
  | some j =>
    rw [e] at h
    obtain ⟨h1, h2, h3, h4⟩ := ixN_seq e
    exact ⟨j, h1, h, h2, h3, h4⟩
theorem atI_nat {α : Type} {xs : List α} {j : Nat} {v : α} (h : xs[j]? = some v) : atI xs (j : Int) = some v := by
  have hj : j < xs.length := (List.getElem?_eq_some_iff.mp h).1
  have e : ixN xs.length (j : Int) = some j := by
    unfold ixN
    rw [if_pos (by omega), if_pos (by omega)]; simp
  unfold atI; rw [e]; exact h

/-! ### what may be subscripted -/
/-- what stands as an index of a plain subscript -/
def PlainIx (b : Expr) : Prop := ∀ o i, subscripted b false o i = operate [o, i] (getItem o i)
/-- a subscript by values -/
def IxR (X : Cx) (r : R2) : Prop :=
  ∀ (value slice : Expr) (pins : List (Addr × Obj)) (s : Shared) (σ : St) (H : Hp) (x y : V) (v u : Value) (Q : VK), Inv X pins σ H s → RelV x v → RelV y u → r x y H Q →
    subscripted slice false v u = operate [v, u] (getItem v u) → wpAny (model X.prog X.w) X.A (subscriptTail value slice v u) (EP X pins σ Q) X.xe s
/-- a call of a builtin's method by values: the receiver, the arguments -/
def MtR (X : Cx) (id : String) (r : V → List V → Hp → VK → Prop) : Prop :=
  ∀ (pins : List (Addr × Obj)) (s : Shared) (σ : St) (H : Hp) (x : V) (xs : List V) (v : Value) (us : List Value) (Q : VK), Inv X pins σ H s → RelV x v → Vals xs us → r x xs H Q →
    wpAny (model X.prog X.w) X.A (call (.builtin id) (v :: us)) (EP X pins σ Q) X.xe s
section
variable {X : Cx} {a b : Expr} {ta tb : TE} {pos : Pos}
/-- a[b] -/
theorem pe_ix {r : R2} (hr : IxR X r) (ha : PE X a ta) (hb : PE X b tb) (hs : PlainIx b) : PE X (.Subscript a b pos) (tOp r ta tb) := by
  intro pins s σ H Q I h
  exact Subscript_ (binT ha hb I h fun v u s2 x y H2 I2 rx ry q => hr a b pins s2 σ H2 x y v u Q I2 rx ry q (hs _ _))

def rIxL (K : PySem.W.Frag) : R2 := fun x y H Q => ∃ p xs i v, x = .ref p ∧ y = .int i ∧ SqL K H p xs ∧ atI xs i = some v ∧ Q v H
def rIxT (K : PySem.W.Frag) : R2 := fun x y H Q => ∃ p xs i v, x = .ref p ∧ y = .int i ∧ SqT K H p xs ∧ atI xs i = some v ∧ Q v H
theorem ix_list : IxR X (rIxL X.K) := by
  intro value slice pins s σ H x y v u Q I rx ry h hs
  obtain ⟨p, xs, i, z, rfl, rfl, hq, he, q⟩ := h
  cases rx
  obtain ⟨t, rfl⟩ := ry
  obtain ⟨its, r, pl, hz⟩ := I.list hq
  obtain ⟨j, h1, h2, h3, h4, h5⟩ := atI_get he
  obtain ⟨w, ew, rw'⟩ := r.get h2
  have hl := r.length
  have hn := line63
  have fin : EP X pins σ Q w s := ⟨z, H, I, rw', q⟩
  by_cases h0 : 0 ≤ i
  · have hj : i.toNat = j := by
      rw [seqIndex_of h0 h5] at h1
      exact Option.some.inj h1
    exact item_listR pl.isList h0 (by omega) (by rw [hj]; simpa using ew) fin hs
  · have hj : (i + (its.toArray.size : Int)).toNat = j := by
      rw [seqIndex_neg (by omega) h4] at h1
      rw [List.size_toArray, ← hl]
      exact Option.some.inj h1
    exact subscriptTail_builtinR (x := w) pl.isList.typeIs slot_list_getitem.lookup
      (wpAny_getItem_list_neg (Q := fun r s' => r = w ∧ EP X pins σ Q r s') pl.isList (by omega) (by rw [List.size_toArray] <;> omega) (by omega) (by rw [hj]; simpa using ew) ⟨rfl, fin⟩) hs
theorem ix_tup : IxR X (rIxT X.K) := by
  intro value slice pins s σ H x y v u Q I rx ry h hs
  obtain ⟨p, xs, i, z, rfl, rfl, hq, he, q⟩ := h
  cases rx
  obtain ⟨t, rfl⟩ := ry
  obtain ⟨its, r, pl, hz⟩ := I.tuple hq
  obtain ⟨j, h1, h2, h3, h4, h5⟩ := atI_get he
  obtain ⟨w, ew, rw'⟩ := r.get h2
  have hl := r.length
  have hn := line63
  have fin : EP X pins σ Q w s := ⟨z, H, I, rw', q⟩
  exact subscriptTail_builtinR (x := w) pl.typeIs slot_tuple_getitem.lookup
    (getItem_tuple (j := j) (Q := fun r s' => r = w ∧ EP X pins σ Q r s') pl (by omega) (by omega) (by rw [List.size_toArray, ← hl]; exact h1) (by simpa using ew) ⟨rfl, fin⟩) hs

/-! ### xs[i] = v, any sign -/
/-- the list's object behind a store -/
theorem mapSeq_set (its : List Value) (n j : Nat) (u : Value) : Obj.mapSeq (·.setIfInBounds j u) { cls := .type "list", data := .seq its.toArray n } = { cls := .type "list", data := .seq (its.set j u).toArray n } := by
  simp [Obj.mapSeq]
theorem Inv.lst {pins : List (Addr × Obj)} {σ : St} {H : Hp} {s : Shared} {p : Addr} {xs : List V} (I : Inv X pins σ H s) (h : H p = some (.lst xs)) :
    ∃ (its : List Value) (n : Nat), Vals xs its ∧ s.heap.get? p = some { cls := .type "list", data := .seq its.toArray n } ∧ xs.length ≤ sizeLine := by
  obtain ⟨z, its, n, r, e⟩ := I.hok p _ h
  exact ⟨its, n, r, e, z⟩
/-- the list at p is written by an update of its object -/
theorem Inv.lstUpd {pins : List (Addr × Obj)} {σ : St} {H : Hp} {s : Shared} {p : Addr} {xs ys : List V} {its its' : List Value} {n n' : Nat} {f : Obj → Obj} (I : Inv X pins σ H s) (h : H p = some (.lst xs))
    (ho : s.heap.get? p = some { cls := .type "list", data := .seq its.toArray n }) (hf : f { cls := .type "list", data := .seq its.toArray n } = { cls := .type "list", data := .seq its'.toArray n' }) (r : Vals ys its') (hz : ys.length ≤ sizeLine) (t : Nat) :
    Inv X pins σ (upd H p (.lst ys)) { s with heap := s.heap.update p f, toks := t } := by
  have e : (s.heap.update p f).get? p = some { cls := .type "list", data := .seq its'.toArray n' } := by
    rw [Heap.get?_update_self f ho (by rw [hf] <;> rfl), hf]
  refine I.write (x := p) (e := p) (by rw [h]; trivial) (.inl rfl) (fun b u hb q => (Heap.get?_update_other _ _ (Ne.symm hb)).trans q) ⟨_, e⟩ ?_
  exact ⟨hz, its', n', r, e⟩
def rSetL : V → V → V → Hp → (Hp → Prop) → Prop := fun o i v H Q => ∃ p xs k j, o = .ref p ∧ i = .int k ∧ H p = some (.lst xs) ∧ ixN xs.length k = some j ∧ Q (upd H p (.lst (xs.set j v)))
theorem set_list : PSet X rSetL := by
  intro pins s σ H o i v ov iv u Q I ro ri rv h
  obtain ⟨p, xs, k, j, rfl, rfl, hp, hj, q⟩ := h
  cases ro
  obtain ⟨t, rfl⟩ := ri
  obtain ⟨its, n, r, ho, hz⟩ := I.lst hp
  obtain ⟨h1, h2, h3, h4⟩ := ixN_seq hj
  have hl := r.length
  have hn := line63
  have I' : Inv X pins σ (upd H p (.lst (xs.set j v))) { s with heap := s.heap.update p (Obj.mapSeq (·.setIfInBounds j u)) } :=
    I.lstUpd hp ho (mapSeq_set its n j u) (r.set rv j) (by rw [List.length_set]; exact hz) s.toks
  by_cases h0 : 0 ≤ k
  · have hk : k.toNat = j := by
      rw [seqIndex_of h0 h4] at h1
      exact Option.some.inj h1
    exact PySem.W.ki_setAt ho h0 (by omega) (by rw [List.size_toArray, ← hl]; exact h4) (by rw [hk]; exact ⟨_, I', q⟩)
  · have hk : (k + (its.toArray.size : Int)).toNat = j := by
      rw [seqIndex_neg (by omega) h3] at h1
      rw [List.size_toArray, ← hl]
      exact Option.some.inj h1
    exact PySem.W.ki_setBack ho (by omega) (by rw [List.size_toArray, ← hl]; exact h3) (by omega) (by rw [hk]; exact ⟨_, I', q⟩)

/-! ### slices -/
theorem slice_bounds (lo hi : Option Int) (n : Nat) : (sliceBounds lo hi none n).1 = ((HT.sIx n 0 lo : Nat) : Int) ∧ (sliceBounds lo hi none n).2.1 = ((HT.sIx n n hi : Nat) : Int) ∧ (sliceBounds lo hi none n).2.2 = 1 := by
  refine ⟨?_, ?_, rfl⟩
  · cases lo with
    | none => simp [sliceBounds, HT.sIx]
    | some i =>
      simp only [sliceBounds, HT.sIx, Option.getD_none, show (1 : Int) > 0 by decide, if_true]
      by_cases h : i < 0
      · simp only [h, if_true] <;> omega
      · simp only [h, if_false] <;> omega
  · cases hi with
    | none => simp [sliceBounds, HT.sIx]
    | some i =>
      simp only [sliceBounds, HT.sIx, Option.getD_none, show (1 : Int) > 0 by decide, if_true]
      by_cases h : i < 0
      · simp only [h, if_true] <;> omega
      · simp only [h, if_false] <;> omega
theorem slicePick_cut (its : List Value) (lo hi : Option Int) : slicePick its.toArray lo hi none = ((its.drop (HT.sIx its.length 0 lo)).take (HT.sIx its.length its.length hi - HT.sIx its.length 0 lo)).toArray := by
  obtain ⟨h1, h2, h3⟩ := slice_bounds lo hi its.toArray.size
  unfold slicePick
  rw [h1, h2, h3]
  simp only [sliceRange_one, pick_run, List.size_toArray] <;> rfl
/-- xs[lo:hi] of a list: a new list -/
def rSlL (K : PySem.W.Frag) : V → Option Int → Option Int → Hp → VK → Prop := fun x lo hi H Q => ∃ a xs, x = .ref a ∧ SqL K H a xs ∧ ∀ p, H p = none → Q (.ref p) (upd H p (.lst (cutV xs lo hi)))
theorem sl_list : SlR X (rSlL X.K) := by
  intro pins s σ H x v vl vu lo hi sl Q I rx hs pl pu h
  obtain ⟨a, xs, rfl, hx, q⟩ := h
  cases rx
  obtain ⟨its, r, ht, hz⟩ := I.list hx
  have hlen := r.length
  refine ⟨"list", _, slot_list_getitem.lookup, ht.isList.typeIs, ?_⟩
  refine wpAny_getItem_list_slice ht.isList hs pl pu .none (by simp) ?_ (by rw [List.size_toArray] <;> omega)
  rw [slicePick_cut, ← hlen]
  refine ⟨.ref s.heap.objs.size, _, I.laid (t' := s.toks) (o := .lst (cutV xs lo hi)) (fun b ob q => Heap.get?_push_of_some _ q) (Nat.le_refl _) ?_, rfl, q _ (I.hok.fresh (Nat.le_refl _))⟩
  exact ⟨Nat.le_trans (cutV_length xs lo hi) hz, _, 0, (r.drop (HT.sIx xs.length 0 lo)).take (HT.sIx xs.length xs.length hi - HT.sIx xs.length 0 lo), Heap.get?_push_size _ rfl⟩

/-! ### in, not in: flat items -/
def flatV : V → Bool
  | .non => true
  | .bl _ => true
  | .int _ => true
  | .str _ => true
  | _ => false
/-- == of flat values -/
def eqV : V → V → Bool
  | .non, .non => true
  | .bl a, .bl b => a == b
  | .bl a, .int b => (if a then 1 else 0) == b
  | .int a, .bl b => a == (if b then 1 else 0)
  | .int a, .int b => a == b
  | .str a, .str b => a == b
  | _, _ => false
theorem eqAt_V {A : Around} {s : Shared} {y x : V} {u v : Value} (ry : RelV y u) (rx : RelV x v) (fy : flatV y = true) (fx : flatV x = true) : SeqAt.EqAt A s u v (eqV y x) := by
  cases y with
  | non =>
    cases ry
    cases x with
    | non => cases rx; exact SeqAt.EqAt.same _
    | bl b => cases rx; exact SeqAt.EqAt.none_bool b
    | int b => obtain ⟨t, rfl⟩ := rx; exact SeqAt.EqAt.none_int b t
    | str b => obtain ⟨t, rfl⟩ := rx; exact SeqAt.EqAt.none_str b t
    | _ => exact absurd (show false = true from fx) Bool.false_ne_true
  | bl a =>
    cases ry
    cases x with
    | non => cases rx; exact SeqAt.EqAt.bool_none a
    | bl b => cases rx; exact SeqAt.EqAt.bool_bool a b
    | int b => obtain ⟨t, rfl⟩ := rx; exact SeqAt.EqAt.bool_int a b t
    | str b => obtain ⟨t, rfl⟩ := rx; exact SeqAt.EqAt.bool_str a b t
    | _ => exact absurd (show false = true from fx) Bool.false_ne_true
  | int a =>
    obtain ⟨t', rfl⟩ := ry
    cases x with
    | non => cases rx; exact SeqAt.EqAt.int_none a t'
    | bl b => cases rx; exact SeqAt.EqAt.int_bool a t' b
    | int b => obtain ⟨t, rfl⟩ := rx; exact SeqAt.EqAt.int_int a t' b t
    | str b => obtain ⟨t, rfl⟩ := rx; exact SeqAt.EqAt.int_str a t' b t
    | _ => exact absurd (show false = true from fx) Bool.false_ne_true
  | str a =>
    obtain ⟨t', rfl⟩ := ry
    cases x with
    | non => cases rx; exact SeqAt.EqAt.str_none a t'
    | bl b => cases rx; exact SeqAt.EqAt.str_bool a t' b
    | int b => obtain ⟨t, rfl⟩ := rx; exact SeqAt.EqAt.str_int a t' b t
    | str b => obtain ⟨t, rfl⟩ := rx; exact SeqAt.EqAt.str_str a t' b t
    | _ => exact absurd (show false = true from fx) Bool.false_ne_true
  | _ => exact absurd (show false = true from fy) Bool.false_ne_true
/-- the items' answers, read off the values (a value's own answer does not lean on its token) -/
def eqU (x : V) (u : Value) : Bool := match u with
  | .none => eqV .non x
  | .bool b => eqV (.bl b) x
  | .int i _ => eqV (.int i) x
  | .str z _ => eqV (.str z) x
  | _ => false
theorem eqU_of {x y : V} {u : Value} (r : RelV y u) (f : flatV y = true) : eqU x u = eqV y x := by
  cases y with
  | non => cases r; rfl
  | bl b => cases r; rfl
  | int i => obtain ⟨t, rfl⟩ := r; rfl
  | str z => obtain ⟨t, rfl⟩ := r; rfl
  | _ => exact absurd (show false = true from f) Bool.false_ne_true
theorem any_eqU {x : V} : ∀ {xs : List V} {us : List Value}, Vals xs us → xs.all flatV = true → us.any (eqU x) = xs.any fun y => eqV y x
  | _, _, .nil, _ => rfl
  | y :: xs, u :: us, .cons r t, f => by
    rw [List.all_cons, Bool.and_eq_true] at f
    rw [List.any_cons, List.any_cons, eqU_of r f.1, any_eqU t f.2]
theorem mem_eqAt {A : Around} {s : Shared} {x : V} {v : Value} (rx : RelV x v) (fx : flatV x = true) : ∀ {xs : List V} {us : List Value}, Vals xs us → xs.all flatV = true → ∀ u ∈ us, SeqAt.EqAt A s u v (eqU x u)
  | _, _, .nil, _ => fun u hu => by cases hu
  | y :: xs, u :: us, .cons r t, f => fun u' hu => by
    rw [List.all_cons, Bool.and_eq_true] at f
    rcases List.mem_cons.mp hu with rfl | hu
    · rw [eqU_of r f.1]; exact eqAt_V r rx f.1 fx
    · exact mem_eqAt rx fx t f.2 u' hu
def inV (x : V) (xs : List V) : Bool := xs.any fun y => eqV y x
/-- x in a list or tuple of flat items -/
def rIn (K : PySem.W.Frag) (neg : Bool) : R2 := fun x y H Q => ∃ p xs, y = .ref p ∧ (SqL K H p xs ∨ SqT K H p xs) ∧ flatV x = true ∧ xs.all flatV = true ∧ Q (.bl (if neg then !inV x xs else inV x xs)) H
theorem op_notIn_seq : OpR X (compareOp .NotIn) (rIn X.K true) := by
  intro pins s σ H x y v u Q I rx ry h
  obtain ⟨p, xs, rfl, hq, fx, fs, q⟩ := h
  cases ry
  rcases hq with hq | hq
  · obtain ⟨its, r, pl, hz⟩ := I.list hq
    refine SeqAt.notIn_listAt (eqU x) pl.isList (fun w hw => mem_eqAt rx fx r fs w (by simpa using hw)) ⟨.bl _, H, I, rfl, ?_⟩
    rw [show its.toArray.any (eqU x) = its.any (eqU x) by simp, any_eqU r fs]
    exact q
  · obtain ⟨its, r, pl, hz⟩ := I.tuple hq
    refine SeqAt.notIn_tupleAt (eqU x) pl (fun w hw => mem_eqAt rx fx r fs w (by simpa using hw)) ⟨.bl _, H, I, rfl, ?_⟩
    rw [show its.toArray.any (eqU x) = its.any (eqU x) by simp, any_eqU r fs]
    exact q

/-! ### len, list(x), tuple(x) of any list or tuple that is read -/
theorem call_len_seq : CallR X (.builtin "len") (fun xs H Q => ∃ p ys, xs = [.ref p] ∧ (SqL X.K H p ys ∨ SqT X.K H p ys) ∧ Q (.int ys.length) H) := by
  intro pins s σ H xs us Q I r h
  obtain ⟨p, ys, rfl, hq, q⟩ := h
  obtain ⟨u, rfl, rx⟩ := vals1 r
  cases rx
  have hn := line63
  rcases hq with hq | hq
  · obtain ⟨its, r', pl, hz⟩ := I.list hq
    have hlen := r'.length
    exact Calls.call_len_list pl.isList (by simp only [List.size_toArray] <;> omega) ⟨.int ys.length, H, I.tok _, ⟨s.toks + 1, by rw [List.size_toArray, hlen]⟩, q⟩
  · obtain ⟨its, r', pl, hz⟩ := I.tuple hq
    have hlen := r'.length
    exact len_tuple pl (by simp only [List.size_toArray] <;> omega) ⟨.int ys.length, H, I.tok _, ⟨s.toks + 1, by rw [List.size_toArray, hlen]⟩, q⟩

/-! ### the call of a builtin's method: o.m(..) -/
/-- the value is of that builtin type -/
def tyV (K : PySem.W.Frag) (T : String) (x : V) (H : Hp) : Prop := match x with
  | .str _ => T = "str"
  | .int _ => T = "int"
  | .ref p => (T = "list" ∧ ∃ xs, SqL K H p xs) ∨ (T = "tuple" ∧ ∃ o, K.lookup p = some o ∧ o.cls = .type "tuple" ∧ o.dict = none) ∨
      (T = "dict" ∧ ((∃ kvs, H p = some (.dK kvs)) ∨ ∃ kvs, H p = some (.dT kvs))) ∨ (T = "set" ∧ ∃ S n, H p = some (.set S n))
  | _ => False
theorem tyV_is {pins : List (Addr × Obj)} {σ : St} {H : Hp} {s : Shared} {T : String} {x : V} {v : Value} (I : Inv X pins σ H s) (r : RelV x v) (ty : tyV X.K T x H) :
    s.TypeIs v T ∧ ∀ a, v = .ref a → ∃ ob, s.heap.get? a = some ob ∧ ob.dict = none := by
  cases x with
  | str z =>
    obtain ⟨t, rfl⟩ := r
    cases (show T = "str" from ty)
    exact ⟨typeIs_str s z t, fun _ e => nomatch e⟩
  | int i =>
    obtain ⟨t, rfl⟩ := r
    cases (show T = "int" from ty)
    exact ⟨typeIs_int s i t, fun _ e => nomatch e⟩
  | ref p =>
    cases r
    rcases ty with ⟨rfl, xs, hq⟩ | ⟨rfl, o, hk, hc, hd⟩ | ⟨rfl, hk⟩ | ⟨rfl, S, n, hk⟩
    · obtain ⟨its, _, pl, _⟩ := I.list hq
      refine ⟨pl.isList.typeIs, fun a e => ?_⟩
      cases e
      obtain ⟨o, n, e, c, hd, _⟩ := pl
      exact ⟨o, e, hd⟩
    · refine ⟨⟨o, I.kIn p o hk, hc⟩, fun a e => ?_⟩
      cases e
      exact ⟨o, I.kIn _ o hk, hd⟩
    · have z : ∃ o, s.heap.get? p = some o ∧ o.ExactDict := by
        rcases hk with ⟨kvs, hk⟩ | ⟨kvs, hk⟩
        · obtain ⟨_, _, _, _, o, _, _, e, ex, _⟩ := I.hok p _ hk
          exact ⟨o, e, ex⟩
        · obtain ⟨_, _, _, _, o, _, _, e, ex, _⟩ := I.hok p _ hk
          exact ⟨o, e, ex⟩
      obtain ⟨o, e, ex⟩ := z
      refine ⟨⟨o, e, ex.1⟩, fun a e2 => ?_⟩
      cases e2
      exact ⟨o, e, ex.2.1⟩
    · obtain ⟨o, _, _, _, e, ex, _⟩ := I.hok p _ hk
      refine ⟨⟨o, e, ex.1⟩, fun a e2 => ?_⟩
      cases e2
      exact ⟨o, e, ex.2.1⟩
  | _ => exact False.elim ty
def tBM (K : PySem.W.Frag) (T : String) (r : V → List V → Hp → VK → Prop) (to : TE) (t : TA) : TE := fun σ H Q => to σ H fun x H1 => tyV K T x H1 ∧ t σ H1 fun xs H2 => r x xs H2 Q
variable {o e : Expr} {es : List Expr} {to : TE} {t : TA} {name : Str} {apos cpos : Pos} {T id : String} {r : V → List V → Hp → VK → Prop}
theorem pe_bm (pa : PlainAttrs T) (slot : Slot T name id) (hty : typeOf (.builtin id) = pure (.type "method_descriptor")) (hm : MtR X id r) (ho : PE X o to) (ha : PA X (e :: es) t)
    (hbase : attributeBase o name X.env (eval o X.env) = eval o X.env := by rfl)
    (hfew : ((backTo cpos (starEach (e :: es) X.env)).all (fun x => !x.1) && (backToKw cpos (keywordEach [] X.env)).all (fun x => x.1.isSome)
      && decide ((e :: es).length + ([] : List Keyword).length + (if ([] : List Keyword).isEmpty then 0 else 1) < 30)) = true := by rfl)
    (hline : (apos.endLine == cpos.line) = true := by rfl) (hs : starEach (e :: es) X.env = (false, eval e X.env) :: starEach es X.env := by rfl) (hplain : (backTo cpos (starEach es X.env)).any (·.1) = false := by rfl) :
    PE X (.Call (.Attribute o name apos) (e :: es) [] cpos) (tBM X.K T r to t) := by
  intro pins s σ H Q I h
  refine wpAny_Call_method_late hbase hfew hline rfl (thn (ho pins s σ H _ I h) fun v s1 ⟨x, H1, I1, r1, ty, q1⟩ => ?_)
  obtain ⟨h1, h2⟩ := tyV_is I1 r1 ty
  refine ⟨T, id, pa, slot, hty, h1, h2, ?_⟩
  have hA := ha cpos pins s1 σ H1 _ I1 q1
  rw [hs] at hA ⊢
  refine Calls.callWith_builtin (by show (false || (backTo cpos (starEach es X.env)).any (·.1)) = false; rw [hplain] <;> rfl) (Calls.evalArgs_plain ?_)
  exact thn hA fun us s2 ⟨vs, H2, I2, r2, q2⟩ => hm pins s2 σ H2 x vs v us Q I2 r1 r2 q2
/- xs.append(e), list.index on a module's tuple .. are MtR facts of 06m -/
end
end L2

namespace L2
open PySem PySem.Spec PyProof.Rows

def MtM (X : Cx) (id : String) (r : V → List V → Hp → VK → Prop) : Prop :=
  ∀ (pins : List (Addr × Obj)) (s : Shared) (σ : St) (H : Hp) (x : V) (xs : List V) (v : Value) (us : List Value) (Q : VK), Inv X pins σ H s → RelV x v → Vals xs us → r x xs H Q →
    wpAny (model X.prog X.w) X.A (call (.builtin id) (v :: us)) (EP X pins σ Q) X.xe s

/-! ### lists of values -/
theorem Vals.one : ∀ {x : V} {us : List Value}, Vals [x] us → ∃ u, us = [u] ∧ RelV x u
  | _, _, .cons r .nil => ⟨_, rfl, r⟩
theorem Vals.rep {xs : List V} {us : List Value} (h : Vals xs us) : ∀ k : Nat, Vals (List.replicate k xs).flatten (List.replicate k us).flatten
  | 0 => .nil
  | k + 1 => by
    rw [List.replicate_succ, List.replicate_succ, List.flatten_cons, List.flatten_cons]
    exact Vals.append h (Vals.rep h k)
theorem foldl_rep (its : List Value) : ∀ (k : Nat) (acc : List Value),
    List.foldl (fun x1 x2 => x1 ++ x2) acc.toArray (List.replicate k its.toArray) = (acc ++ (List.replicate k its).flatten).toArray
  | 0, acc => by simp
  | k + 1, acc => by
    have e : acc.toArray ++ its.toArray = (acc ++ its).toArray := by simp
    have e2 : (acc ++ its) ++ (List.replicate k its).flatten = acc ++ (List.replicate (k + 1) its).flatten := by
      rw [List.replicate_succ, List.flatten_cons, List.append_assoc]
    rw [← e2, ← foldl_rep its k (acc ++ its), ← e, List.replicate_succ, List.foldl_cons]

section
variable {X : Cx} {pins : List (Addr × Obj)} {σ : St} {H : Hp} {s : Shared} {l b : Addr} {xs ys zs : List V}

/-! ### the two steps: a tracked list is rewritten, a new list is laid -/
theorem Inv.lset {its its' : List Value} {n : Nat} {f : Array Value → Array Value} {t' : Nat} (I : Inv X pins σ H s) (hH : H l = some (.lst xs))
    (e : s.heap.get? l = some { cls := .type "list", data := .seq its.toArray n }) (hf : f its.toArray = its'.toArray) (hv : Vals ys its') (hz : ys.length ≤ sizeLine) :
    Inv X pins σ (upd H l (.lst ys)) { s with heap := s.heap.update l (Obj.mapSeq f), toks := t' } := by
  have q := PySem.IsL.update e f
  rw [hf] at q
  refine I.write (x := l) (e := l) (by rw [hH]; exact trivial) (.inl rfl) (fun b' u hb hu => (Heap.get?_update_other s.heap (Obj.mapSeq f) (Ne.symm hb)).trans hu) ⟨_, q⟩ ?_
  exact ⟨hz, its', _, hv, q⟩
theorem Inv.lnew {its : List Value} {t' : Nat} (I : Inv X pins σ H s) (hv : Vals ys its) (hz : ys.length ≤ sizeLine) :
    Inv X pins σ (upd H s.heap.objs.size (.lst ys)) { s with heap := s.heap.push { cls := .type "list", data := .seq its.toArray }, toks := t' } :=
  I.laid (fun _ _ q => Heap.get?_push_of_some _ q) (Nat.le_refl _) ⟨hz, its, 0, hv, Heap.get?_push_size _ rfl⟩
theorem Inv.fresh (I : Inv X pins σ H s) : H s.heap.objs.size = none := I.hok.fresh (Nat.le_refl _)
theorem Inv.lstM (I : Inv X pins σ H s) (hH : H l = some (.lst xs)) : xs.length ≤ sizeLine ∧ ∃ (its : List Value) (n : Nat), Vals xs its ∧ xs.length = its.length ∧ s.heap.get? l = some { cls := .type "list", data := .seq its.toArray n } := by
  obtain ⟨z, its, n, r, e⟩ := I.hok l _ hH
  exact ⟨z, its, n, r, r.length, e⟩

theorem notLongL {n : Nat} (h : n ≤ sizeLine) : Builtin.List.listTooLong n = false := by
  unfold Builtin.List.listTooLong
  exact decide_eq_false (by omega)
end

section
variable {X : Cx}

/-! ### methods -/
def rAppend : V → List V → Hp → VK → Prop := fun x vs H Q => ∃ l xs y, x = .ref l ∧ vs = [y] ∧ H l = some (.lst xs) ∧ xs.length < sizeLine ∧ Q .non (upd H l (.lst (xs ++ [y])))
theorem mt_append : MtM X "list.append" rAppend := by
  intro pins s σ H x vs v us Q I rx rv h
  obtain ⟨l, xs, y, rfl, rfl, hH, hz, q⟩ := h
  cases rx
  obtain ⟨u, rfl, ru⟩ := rv.one
  obtain ⟨z, its, n, r, hl, e⟩ := I.lstM hH
  refine call_meets F.slot_list_append ⟨_, e, rfl⟩ F.entry_list_append (F.args_list_append_2 _ _) (PySem.list_append l its.toArray n u (by rw [List.size_toArray]; omega)) ⟨e, ?_⟩
  refine ⟨.non, _, I.lset (its' := its ++ [u]) hH e (by simp) (r.append (.cons ru .nil)) ?_, rfl, q⟩
  rw [List.length_append, List.length_singleton]
  omega

def rExtend : V → List V → Hp → VK → Prop := fun x vs H Q => ∃ l b xs zs, x = .ref l ∧ vs = [.ref b] ∧ H l = some (.lst xs) ∧ H b = some (.lst zs) ∧ xs.length + zs.length ≤ sizeLine ∧ Q .non (upd H l (.lst (xs ++ zs)))
theorem mt_extend : MtM X "list.extend" rExtend := by
  intro pins s σ H x vs v us Q I rx rv h
  obtain ⟨l, b, xs, zs, rfl, rfl, hH, hB, hz, q⟩ := h
  cases rx
  obtain ⟨u, rfl, ru⟩ := rv.one
  cases ru
  obtain ⟨z, its, n, r, hl, e⟩ := I.lstM hH
  obtain ⟨z2, its2, n2, r2, hl2, e2⟩ := I.lstM hB
  have hsz : its.toArray.size + its2.toArray.size ≤ sizeLine := by rw [List.size_toArray, List.size_toArray]; omega
  have hlong : ¬ (!its.toArray.isEmpty && Builtin.List.listTooLong (its.toArray.size + its2.toArray.size)) = true := by
    rw [notLongL hsz, Bool.and_false]
    exact Bool.false_ne_true
  refine call_meets F.slot_list_extend ⟨_, e, rfl⟩ F.entry_list_extend (F.args_list_extend_2 _ _)
    (AutoSeq1.list_extend_list_list_0 l its.toArray n b its2.toArray n2 hlong (by rw [List.size_toArray]; omega) (by omega)) ⟨e, e2, ?_⟩
  refine ⟨.non, _, I.lset (its' := its ++ its2) hH e (by simp) (r.append r2) ?_, rfl, q⟩
  rw [List.length_append]
  omega





/-! ### list + list, list += list, list * int -/
def rCat : R2 := fun x y H Q => ∃ l b xs zs, x = .ref l ∧ y = .ref b ∧ H l = some (.lst xs) ∧ H b = some (.lst zs) ∧ xs.length + zs.length ≤ sizeLine ∧ ∀ p, H p = none → Q (.ref p) (upd H p (.lst (xs ++ zs)))
theorem op_cat : OpR X (binaryOp .Add) rCat := by
  intro pins s σ H x y v u Q I rx ry h
  obtain ⟨l, b, xs, zs, rfl, rfl, hH, hB, hz, q⟩ := h
  cases rx
  cases ry
  obtain ⟨z, its, n, r, hl, e⟩ := I.lstM hH
  obtain ⟨z2, its2, n2, r2, hl2, e2⟩ := I.lstM hB
  refine PySem.P.add_list e e2 ?_ (by rw [List.size_toArray, List.size_toArray]; omega)
  have ea : its.toArray ++ its2.toArray = (its ++ its2).toArray := by simp
  rw [ea]
  exact ⟨.ref _, _, I.lnew (t' := s.toks) (r.append r2) (by rw [List.length_append]; omega), rfl, q _ I.fresh⟩
/-- a list times an int (a negative one is nothing) -/
def rRep : R2 := fun x y H Q => ∃ l k xs, x = .ref l ∧ y = .int k ∧ H l = some (.lst xs) ∧ -(2 ^ 63) ≤ k ∧ k < 2 ^ 63 ∧ xs.length * k.toNat ≤ sizeLine ∧
  ∀ p, H p = none → Q (.ref p) (upd H p (.lst (List.replicate k.toNat xs).flatten))
theorem len_rep {α : Type} (xs : List α) (k : Nat) : (List.replicate k xs).flatten.length = k * xs.length := by
  induction k with
  | zero => simp
  | succ k ih => rw [List.replicate_succ, List.flatten_cons, List.length_append, ih, Nat.succ_mul, Nat.add_comm]
theorem op_rep : OpR X (binaryOp .Mult) rRep := by
  intro pins s σ H x y v u Q I rx ry h
  obtain ⟨l, k, xs, rfl, rfl, hH, h1, h2, hz, q⟩ := h
  cases rx
  obtain ⟨t, rfl⟩ := ry
  obtain ⟨z, its, n, r, hl, e⟩ := I.lstM hH
  have hlen : its.toArray.size * k.toNat ≤ sizeLine := by rw [List.size_toArray, ← hl]; exact hz
  have hcap : ¬ its.toArray.size * k.toNat > (2 ^ 63 - 1) / 8 := by
    have : (sizeLine : Nat) ≤ (2 ^ 63 - 1) / 8 := by decide
    omega
  have hfit : ¬ (!Builtin.List.listFitsIndex k) = true := by
    rw [fitsIndex_both h1 h2]
    exact Bool.false_ne_true
  have hlong : ¬ Builtin.List.listTooLong (its.toArray.size * k.toNat) = true := by
    rw [notLongL hlen]
    exact Bool.false_ne_true
  have hnew : List.foldl (fun x1 x2 => x1 ++ x2) #[] (List.replicate (if its.toArray.isEmpty = true then 0 else k.toNat) its.toArray) = (List.replicate k.toNat its).flatten.toArray := by
    have f0 : ∀ m : Nat, List.foldl (fun x1 x2 => x1 ++ x2) #[] (List.replicate m its.toArray) = (List.replicate m its).flatten.toArray := fun m => by
      have := foldl_rep its m []
      rw [List.nil_append] at this
      exact this
    rw [f0]
    cases its with
    | nil => simp
    | cons a r' => rw [if_neg (by simp)]
  refine wpAny_binaryOp_repeat_ref (T := "list") (U := "int") (by decide) ⟨_, e, rfl⟩ (fun s' => typeIs_int s' k t) noFill_list_mul F.fills_int_mul F.slot_int_rmul repeat_list F.slot_int_index.lookup
    (call_meets F.slot_int_rmul (typeIs_int s k t) F.entry_int_rmul (F.args_int_rmul_2 _ _) (int___rmul___int_list k t l its.toArray n)
      ⟨e, rfl, ⟨_, e, rfl⟩, call_meets F.slot_list_mul ⟨_, e, rfl⟩ F.entry_list_mul (F.args_list_mul_2 _ _) (AutoListH.list___mul___list_int_3 l its.toArray n k t hfit hcap hlong) ⟨e, ?_⟩⟩)
  rw [hnew]
  exact ⟨.ref _, _, I.lnew (t' := s.toks) (r.rep k.toNat) (by rw [len_rep, Nat.mul_comm]; exact hz), rfl, q _ I.fresh⟩

/-! ### del xs[i] -/
end

/-! ### xs[a:b] = ys -/
section
variable {prog : Program} {w : World} {A : Around} {E : Value → Shared → Prop} {s : Shared}
set_option maxRecDepth 100000 in
end

section
variable {X : Cx}
end
end L2

namespace L2
open PySem PySem.Spec PyProof.Rows

theorem Vals.ints : ∀ {ns : List Int} {us : List Value}, Vals (ns.map V.int) us → IntsAre us ns
  | [], us, h => by
    rw [List.map_nil] at h
    cases h
    exact IntsAre.nil
  | n :: ns, us, h => by
    rw [List.map_cons] at h
    cases h with
    | cons r t =>
      obtain ⟨k, rfl⟩ := r
      exact IntsAre.cons n k (Vals.ints t)
theorem Vals.ref1 {a : Addr} {us : List Value} (r : Vals [V.ref a] us) : us = [Value.ref a] := by
  cases r with
  | cons r t =>
    cases t
    cases r
    rfl

/-! ### the library's walks over a list of ints, kept objects alone -/
section
variable {prog : Program} {w : World} {A : Around} {E : Value → Shared → Prop} {s : Shared} {l : Addr} {its : List Value} {ns : List Int} {Q : Value → Shared → Prop}
theorem sum_raw (hh : A.handled = none) (hl : s.heap.IsList l its.toArray) (hi : IntsAre its ns)
    (h : ∀ h' tk t', (∀ b o, s.heap.get? b = some o → h'.get? b = some o) → Q (.int ns.sum t') { s with heap := h', toks := tk }) : wpAny (model prog w) A (call (.builtin "sum") [.ref l]) Q E s := by
  obtain ⟨xs, e⟩ := hi.allInts.items
  have hn : numsOf (intItems xs).toList = ns := by rw [← e]; exact hi.numsOf
  rw [nums_intItems] at hn
  rw [e] at hl
  refine PySem.sum_intListG hh hl fun h' tk t' hk => ?_
  have := h h' tk t' hk
  rw [preSum_eq, List.take_of_length_le (by simp), hn]; exact this
end

/-! ### the calls, by values (CallR of 03t; MtR of 06l) -/
section
variable {X : Cx}
/-- sum(xs) of a list of ints -/
def rSum (K : PySem.W.Frag) : List V → Hp → VK → Prop := fun vs H Q => ∃ (a : Addr) (ns : List Int), vs = [V.ref a] ∧ SqL K H a (ns.map V.int) ∧ Q (.int ns.sum) H
theorem cr_sum (hc : X.calm = true) : CallR X (.builtin "sum") (rSum X.K) := by
  intro pins s σ H vs us Q I r h
  obtain ⟨a, ns, rfl, hs, q⟩ := h
  obtain ⟨its, rv, hl, _⟩ := I.list hs
  rw [Vals.ref1 r]
  exact sum_raw (I.ok.hd hc) hl.isList rv.ints fun h' tk t' hk => ⟨.int _, H, I.kept hk, ⟨_, rfl⟩, q⟩

/-! sorted, sort (fewer than 64 items: the library's own bound) -/
end

/-! ### list.index, flat items -/
section
variable {X : Cx}
end

/-! ### type(x) of an own instance; is, is not of a module's class -/
section
variable {X : Cx}
end

/-! ### any(xs), all(xs) of a list of bools -/
section
variable {X : Cx}
end

/-! ### == and != of data at any depth: none, bools, ints, texts, lists, tuples -/
section
variable {X : Cx} {pins : List (Addr × Obj)} {σ : St} {H : Hp} {s : Shared}
end
section
variable {X : Cx}
end
end L2

namespace L2
open PySem PySem.Spec PyProof.Rows
abbrev CellAt (h : Heap) (c : Addr) (v : Option Value) : Prop := h.IsCell c v
def relS (scope sc : Scope) : Scope :=
  { scope with names := scope.names.map fun (n, k) => if (k == .free && sc.kind == .function && sc.names.lookup n == some .cell) then (n, .cell) else (n, k) }

def cloFrom (cells : List (Str × Addr)) : List (Str × NameKind) → List (Str × Addr) → List (Str × Addr)
  | [], acc => acc
  | (n, k) :: r, acc => if k == .free then cloFrom cells r ((n, (cells.lookup n).getD 0) :: acc) else cloFrom cells r acc

theorem closure_loop (env : Env) (f : Str × NameKind → List (Str × Addr) → Sem (ForInStep (List (Str × Addr))))
    (hf : ∀ n k c, f (n, k) c = if k == .free then (do let a ← cellOf env n; pure (.yield ((n, a) :: c))) else pure (.yield c)) :
    ∀ (names : List (Str × NameKind)) (acc : List (Str × Addr)), (∀ y ∈ names, y.2 = .free → ∃ c, env.cells.lookup y.1 = some c) → forIn names acc f = pure (cloFrom env.cells names acc)
  | [], acc, _ => by rw [List.forIn_nil]; rfl
  | (n, k) :: r, acc, h => by
    rw [List.forIn_cons, hf]
    have ih := fun acc => closure_loop env f hf r acc fun y hy => h y (List.mem_cons_of_mem _ hy)
    unfold cloFrom
    by_cases hk : (k == NameKind.free) = true
    · rw [if_pos hk, if_pos hk]
      obtain ⟨c, hc⟩ := h (n, k) List.mem_cons_self (by simpa using hk)
      have e : cellOf env n = pure c := by unfold cellOf; rw [hc]
      rw [e]
      have e2 : (env.cells.lookup n).getD 0 = c := by rw [hc]; rfl
      rw [e2]
      exact ih _
    · rw [if_neg hk, if_neg hk]
      exact ih _
theorem closure_ok {scope : Scope} {env : Env} (h : ∀ y ∈ scope.names, y.2 = .free → ∃ c, env.cells.lookup y.1 = some c) : closureFor scope env = pure (cloFrom env.cells scope.names []) := by
  simp only [closureFor]
  rw [closure_loop env _ (fun n k c => rfl) scope.names [] h]
  rfl

theorem mem_lookup {α : Type} : ∀ {l : List (Str × α)} {n : Str} {c : α}, (n, c) ∈ l → ∃ c', l.lookup n = some c'
  | (k, v) :: r, n, c, h => by
    rw [List.lookup_cons]
    cases hb : n == k with
    | true => exact ⟨_, rfl⟩
    | false =>
      rcases List.mem_cons.mp h with e | h
      · cases e; simp at hb
      · exact mem_lookup h

theorem cloFrom_mem {cells : List (Str × Addr)} : ∀ {names : List (Str × NameKind)} {acc : List (Str × Addr)} {n : Str} {c : Addr}, (n, c) ∈ cloFrom cells names acc → (n, c) ∈ acc ∨ ((n, .free) ∈ names ∧ c = (cells.lookup n).getD 0)
  | [], _, _, _, h => .inl h
  | (m, k) :: r, acc, n, c, h => by
    unfold cloFrom at h
    split at h
    · rename_i hk
      have hk : k = .free := by simpa using hk
      rcases cloFrom_mem h with h | ⟨h1, h2⟩
      · rcases List.mem_cons.mp h with e | h
        · cases e; exact .inr ⟨hk ▸ List.mem_cons_self, rfl⟩
        · exact .inl h
      · exact .inr ⟨List.mem_cons_of_mem _ h1, h2⟩
    · rcases cloFrom_mem h with h | ⟨h1, h2⟩
      · exact .inl h
      · exact .inr ⟨List.mem_cons_of_mem _ h1, h2⟩
theorem cloFrom_acc {cells : List (Str × Addr)} : ∀ {names : List (Str × NameKind)} {acc : List (Str × Addr)} {p : Str × Addr}, p ∈ acc → p ∈ cloFrom cells names acc
  | [], _, _, h => h
  | (m, k) :: r, acc, p, h => by
    unfold cloFrom
    split
    · exact cloFrom_acc (List.mem_cons_of_mem _ h)
    · exact cloFrom_acc h
theorem cloFrom_has {cells : List (Str × Addr)} : ∀ {names : List (Str × NameKind)} {acc : List (Str × Addr)} {n : Str}, (n, .free) ∈ names → (n, (cells.lookup n).getD 0) ∈ cloFrom cells names acc
  | (m, k) :: r, acc, n, h => by
    unfold cloFrom
    rcases List.mem_cons.mp h with e | h
    · cases e
      exact cloFrom_acc List.mem_cons_self
    · split
      · exact cloFrom_has h
      · exact cloFrom_has h

theorem cells_mem : ∀ {names : List (Str × NameKind)} {h : Heap} {acc : List (Str × Addr)} {x : Str} {c : Addr}, (x, c) ∈ cellsFrom h.objs.size names acc →
    (x, c) ∈ acc ∨ ((x, .cell) ∈ names ∧ h.objs.size ≤ c ∧ CellAt (pushCells h names) c none)
  | [], _, _, _, _, h => .inl h
  | (n, k) :: r, h, acc, x, c, hm => by
    unfold cellsFrom at hm
    unfold pushCells
    split at hm
    · rename_i hk
      rw [if_pos hk]
      have hk : k = .cell := by simpa using hk
      rw [← Heap.size_push h { cls := .type "cell", data := .cell none }] at hm
      rcases cells_mem hm with hm | ⟨h1, h2, h3⟩
      · rcases List.mem_cons.mp hm with e | hm
        · cases e
          exact .inr ⟨hk ▸ List.mem_cons_self, Nat.le_refl _, _, pushCells_keeps r _ _ _ (Heap.get?_push_size _ rfl), rfl⟩
        · exact .inl hm
      · rw [Heap.size_push] at h2
        exact .inr ⟨List.mem_cons_of_mem _ h1, Nat.le_of_succ_le h2, h3⟩
    · rename_i hk
      rw [if_neg hk]
      rcases cells_mem hm with hm | ⟨h1, h2, h3⟩
      · exact .inl hm
      · exact .inr ⟨List.mem_cons_of_mem _ h1, h2, h3⟩
theorem cells_acc : ∀ {names : List (Str × NameKind)} {n : Nat} {acc : List (Str × Addr)} {p : Str × Addr}, p ∈ acc → p ∈ cellsFrom n names acc
  | [], _, _, _, h => h
  | (m, k) :: r, n, acc, p, h => by
    unfold cellsFrom
    split
    · exact cells_acc (List.mem_cons_of_mem _ h)
    · exact cells_acc h
theorem cells_has : ∀ {names : List (Str × NameKind)} {n : Nat} {acc : List (Str × Addr)} {x : Str}, (x, .cell) ∈ names → ∃ c, (x, c) ∈ cellsFrom n names acc
  | (m, k) :: r, n, acc, x, h => by
    unfold cellsFrom
    rcases List.mem_cons.mp h with e | h
    · cases e
      exact ⟨n, cells_acc List.mem_cons_self⟩
    · split
      · exact cells_has h
      · exact cells_has h
theorem cells_inj : ∀ {names : List (Str × NameKind)} {h : Heap} {acc : List (Str × Addr)} {x y : Str} {c : Addr}, (∀ p ∈ acc, p.2 < h.objs.size) → (∀ x y c, (x, c) ∈ acc → (y, c) ∈ acc → x = y) →
    (x, c) ∈ cellsFrom h.objs.size names acc → (y, c) ∈ cellsFrom h.objs.size names acc → x = y
  | [], _, _, _, _, _, _, hi, h1, h2 => hi _ _ _ h1 h2
  | (n, k) :: r, h, acc, x, y, c, hl, hi, h1, h2 => by
    unfold cellsFrom at h1 h2
    split at h1
    · rename_i hk
      rw [if_pos hk] at h2
      rw [← Heap.size_push h { cls := .type "cell", data := .cell none }] at h1 h2
      refine cells_inj (h := h.push _) (fun p hp => ?_) (fun x y c a b => ?_) h1 h2
      · rw [Heap.size_push]
        rcases List.mem_cons.mp hp with rfl | hp
        · exact Nat.lt_succ_self _
        · exact Nat.lt_succ_of_lt (hl p hp)
      · rcases List.mem_cons.mp a with e | a <;> rcases List.mem_cons.mp b with e' | b
        · cases e; cases e'; rfl
        · cases e; exact absurd (hl _ b) (Nat.lt_irrefl _)
        · cases e'; exact absurd (hl _ a) (Nat.lt_irrefl _)
        · exact hi _ _ _ a b
    · rename_i hk
      rw [if_neg hk] at h2
      exact cells_inj hl hi h1 h2

theorem newEnv_comp {M : Model} {A : Around} {E : Value → Shared → Prop} {s : Shared} {scope : Scope} {globals : Addr} {closure : List (Str × Addr)} {qual : Str} {func : Option Addr} {code : Value} {around : Env} {builtins : Addr} {Q : Env → Shared → Prop}
    (h : Q (newEnv scope s.heap.objs.size globals (cellsFrom (s.heap.objs.size + 1) scope.names closure) qual func code (some around) builtins)
      { s with heap := pushCells (s.heap.push { cls := .type "dict", data := .dict #[] }) scope.names }) :
    wpAny M A (newFunctionEnv scope globals closure [] qual func code (some around) builtins) Q E s := by
  simp only [newFunctionEnv, Option.isSome_some, if_true]
  refine wpAny_bind (wpAny_alloc ?_)
  refine wpAny_bind (wpAny_layCells _ (fun n k c => rfl) scope.names closure _ _ ?_)
  rw [show ({ s with heap := s.heap.push { cls := .type "dict", data := .dict #[] } } : Shared).heap.objs.size = s.heap.objs.size + 1 from Heap.size_push ..]
  rw [List.forIn_nil]
  exact wpAny_bind (wpAny_pure (wpAny_pure h))

/-- every name of the written scope, in the scope that runs -/
theorem lookup_relS {sc : Scope} : ∀ {names : List (Str × NameKind)} {x : Str} {k : NameKind},
    (names.map fun (n, k) => if (k == NameKind.free && sc.kind == .function && sc.names.lookup n == some .cell) then (n, NameKind.cell) else (n, k)).lookup x = some k →
    ∃ k', names.lookup x = some k' ∧ (k = k' ∨ (k' = .free ∧ k = .cell))
  | [], _, _, h => by simp at h
  | (n, k₀) :: r, x, k, h => by
    have ih := @lookup_relS sc r x k
    have h' : List.lookup x ((if (k₀ == NameKind.free && sc.kind == .function && sc.names.lookup n == some .cell) = true then (n, NameKind.cell) else (n, k₀)) :: (r.map _)) = some k := h
    cases hx : x == n with
    | true =>
      simp only [List.lookup_cons, hx]
      by_cases hc : (k₀ == NameKind.free && sc.kind == .function && sc.names.lookup n == some .cell) = true
      · rw [if_pos hc] at h'
        simp only [List.lookup_cons, hx] at h'
        cases h'
        simp only [Bool.and_eq_true, beq_iff_eq] at hc
        exact ⟨k₀, rfl, .inr ⟨hc.1.1, rfl⟩⟩
      · rw [if_neg hc] at h'
        simp only [List.lookup_cons, hx] at h'
        cases h'
        exact ⟨_, rfl, .inl rfl⟩
    | false =>
      simp only [List.lookup_cons, hx]
      by_cases hc : (k₀ == NameKind.free && sc.kind == .function && sc.names.lookup n == some .cell) = true
      · rw [if_pos hc] at h'
        simp only [List.lookup_cons, hx] at h'
        exact ih h'
      · rw [if_neg hc] at h'
        simp only [List.lookup_cons, hx] at h'
        exact ih h'



/-- the names of a comprehension's block: its own (with their places in N), or captured -/
structure BlkOk (N : List Str) (sc scope : Scope) (own : List (Str × Nat)) : Prop where
  kind : scope.kind = .function
  uniq : ∀ y ∈ scope.names, scope.names.lookup y.1 = some y.2
  ix : ∀ p ∈ own, N[p.2]? = some p.1
  free : ∀ y ∈ scope.names, y.2 = .free → sc.names.lookup y.1 = some .cell ∨ sc.names.lookup y.1 = some .free
  own : ∀ y ∈ scope.names, y.2 = .local ∨ y.2 = .cell → y.1 ∈ own.map (·.1) ∨ y.1 ∉ N
/-- the slots of the block's own names forgotten -/
def wipe (σ : St) : List Nat → St
  | [] => σ
  | v :: vs => (wipe σ vs).set v none
theorem wipe_length (σ : St) : ∀ vs : List Nat, (wipe σ vs).length = σ.length
  | [] => rfl
  | v :: vs => by unfold wipe; rw [List.length_set, wipe_length σ vs]
theorem wipe_some {σ : St} {i : Nat} {x : V} : ∀ {vs : List Nat}, (wipe σ vs)[i]? = some (some x) → σ[i]? = some (some x) ∧ i ∉ vs
  | [], h => ⟨h, by simp⟩
  | v :: vs, h => by
    unfold wipe at h
    by_cases hi : v = i
    · subst hi
      by_cases hv : v < (wipe σ vs).length
      · rw [List.getElem?_set_self hv] at h; cases h
      · rw [List.getElem?_eq_none (by simpa using hv)] at h; cases h
    · rw [List.getElem?_set_ne hi] at h
      obtain ⟨h1, h2⟩ := wipe_some h
      exact ⟨h1, by simp only [List.mem_cons, not_or]; exact ⟨fun e => hi e.symm, h2⟩⟩

/-- the context of a block that starts at s, its iterator's objects at fp -/
abbrev Cx.blk (X : Cx) (s : Shared) (H : Hp) (scope : Scope) (cenv : Env) (fp : List Addr) : Cx := { X with s_0 := s, H_0 := H, env := cenv, outer := X.stack, ex := fp, fn := fun x => scope.names.lookup x == some .cell, pn := [], xe := fun _ _ => False }
section
variable {X : Cx} {pins : List (Addr × Obj)} {σ : St} {H : Hp} {s : Shared}
theorem block_start {scope : Scope} {own : List (Str × Nat)} {fp : List Addr} (I : Inv X pins σ H s) (ok : BlkOk X.N X.env.scope scope own) (hN : X.N.Nodup) (hfp : ∀ b ∈ fp, FpOk X pins H b ∧ b < s.heap.objs.size) :
    Inv (X.blk s H scope (compEnvC scope (cellsFrom (s.heap.objs.size + 1) scope.names (cloFrom X.env.cells scope.names [])) s.heap.objs.size X.env) fp) [] (wipe σ (own.map (·.2))) H { s with heap := pushCells (s.heap.push { cls := .type "dict", data := .dict #[] }) scope.names } := by
  have hfree : ∀ y ∈ scope.names, y.2 = .free → ∃ c, X.env.cells.lookup y.1 = some c := fun y hy e => by
    rcases ok.free y hy e with k | k
    · exact I.ok.has _ (.inl k)
    · exact I.ok.has _ (.inr k)
  generalize hcenv : compEnvC scope (cellsFrom (s.heap.objs.size + 1) scope.names (cloFrom X.env.cells scope.names [])) s.heap.objs.size X.env = cenv
  have kp : ∀ b o, s.heap.get? b = some o → (pushCells (s.heap.push { cls := .type "dict", data := .dict #[] }) scope.names).get? b = some o := fun b o e => pushCells_keeps _ _ _ _ (Heap.get?_push_of_some _ e)
  have hL : cenv.locals = s.heap.objs.size := by rw [← hcenv]; rfl
  have hcl : cenv.cells = cellsFrom (s.heap.objs.size + 1) scope.names (cloFrom X.env.cells scope.names []) := by rw [← hcenv]; rfl
  have hsc : cenv.scope = relS scope X.env.scope := by rw [← hcenv]; rfl
  rw [← Heap.size_push s.heap { cls := .type "dict", data := .dict #[] }] at hcl
  have cm : ∀ {y c}, (y, c) ∈ cloFrom X.env.cells scope.names [] → X.env.cells.lookup y = some c ∧ c < s.heap.objs.size := fun {y c} hm => by
    rcases cloFrom_mem hm with hm | ⟨h1, rfl⟩
    · cases hm
    · obtain ⟨c, hc⟩ := hfree _ h1 rfl
      rw [hc]
      obtain ⟨w, z⟩ := I.cell _ _ hc
      exact ⟨rfl, z.lt⟩
  have mem : ∀ {y c}, cenv.cells.lookup y = some c → (X.env.cells.lookup y = some c ∧ c < s.heap.objs.size) ∨ (s.heap.objs.size + 1 ≤ c ∧ CellAt (pushCells (s.heap.push { cls := .type "dict", data := .dict #[] }) scope.names) c none) := fun {y c} e => by
    rw [hcl] at e
    rcases cells_mem (PySem.mem_of_lookup e) with hm | ⟨_, h2, h3⟩
    · exact .inl (cm hm)
    · rw [Heap.size_push] at h2; exact .inr ⟨h2, h3⟩
  have look : ∀ {y}, scope.names.lookup y = some .free → ∃ c, cenv.cells.lookup y = some c ∧ X.env.cells.lookup y = some c := fun {y} hl => by
    have hy : (y, NameKind.free) ∈ scope.names := PySem.mem_of_lookup hl
    obtain ⟨c', e'⟩ := mem_lookup (cells_acc (names := scope.names) (n := (s.heap.push { cls := .type "dict", data := .dict #[] }).objs.size) (cloFrom_has (cells := X.env.cells) (acc := []) hy))
    rw [← hcl] at e'
    refine ⟨c', e', ?_⟩
    rw [hcl] at e'
    rcases cells_mem (PySem.mem_of_lookup e') with hm | ⟨h1, _, _⟩
    · exact (cm hm).1
    · have := ok.uniq _ h1
      rw [hl] at this; cases this
  have okB : (X.blk s H scope cenv fp).Ok := by
    refine ⟨I.ok.mod, by show cenv.scope.kind = _; rw [hsc]; exact ok.kind, by show cenv.globals = _; rw [← hcenv]; exact I.ok.glob, by show cenv.builtins = _; rw [← hcenv]; exact I.ok.blt, by show s.heap.objs.size ≤ cenv.locals; rw [hL]; exact Nat.le_refl _,
      fun y z c e1 e2 => ?_, fun y hy => ?_, fun y c z e => ?_, I.ok.hd, I.ok.frames, .inl rfl, fun b hb => ⟨?_, fun y c e z => ?_⟩, I.bs, Nat.le_trans I.ok.bsz I.sz, fun b o e hb => ?_, fun b hb z => ?_, I.stack, I.stkFree⟩
    · have e1 : cenv.cells.lookup y = some c := e1
      have e2 : cenv.cells.lookup z = some c := e2
      rw [hcl] at e1 e2
      refine cells_inj (fun p hp => ?_) (fun y z c a b => I.ok.inj y z c (cm a).1 (cm b).1) (PySem.mem_of_lookup e1) (PySem.mem_of_lookup e2)
      rw [Heap.size_push]
      exact Nat.lt_succ_of_lt (cm (y := p.1) (c := p.2) hp).2
    · show ∃ c, cenv.cells.lookup y = some c
      have key : ∀ k, cenv.kindOf y = some k → (k = .cell ∨ k = .free) → ∃ c, cenv.cells.lookup y = some c := fun k hk hk' => by
        unfold Env.kindOf at hk
        rw [hsc] at hk
        obtain ⟨k', e, r⟩ := lookup_relS hk
        have : k' = .cell ∨ k' = .free := by
          rcases r with rfl | ⟨rfl, _⟩
          · exact hk'
          · exact .inr rfl
        rcases this with rfl | rfl
        · obtain ⟨c, hm⟩ := cells_has (n := (s.heap.push { cls := .type "dict", data := .dict #[] }).objs.size) (acc := cloFrom X.env.cells scope.names []) (PySem.mem_of_lookup e)
          obtain ⟨c', e'⟩ := mem_lookup hm
          exact ⟨c', by rw [hcl]; exact e'⟩
        · obtain ⟨c, h1, _⟩ := look e
          exact ⟨c, h1⟩
      rcases hy with hy | hy
      · exact key _ hy (.inl rfl)
      · exact key _ hy (.inr rfl)
    · have z : (scope.names.lookup y == some NameKind.cell) = true := z
      have z : scope.names.lookup y = some .cell := by simpa using z
      have e : cenv.cells.lookup y = some c := e
      rw [hcl] at e
      rcases cells_mem (PySem.mem_of_lookup e) with hm | ⟨_, h2, _⟩
      · rcases cloFrom_mem hm with hm | ⟨h1, _⟩
        · cases hm
        · have q := ok.uniq _ h1
          rw [z] at q; cases q
      · rw [Heap.size_push] at h2
        exact Nat.le_of_succ_le h2
    · show b ≠ cenv.locals
      rw [hL]; exact Nat.ne_of_lt (hfp b hb).2
    · have e : cenv.cells.lookup y = some c := e
      rcases mem e with ⟨h1, _⟩ | ⟨h1, _⟩
      · exact (hfp b hb).1.2.2.2.2.1 y c h1 z
      · have h2 : s.heap.objs.size + 1 ≤ b := by rw [← z]; exact h1
        exact absurd (Nat.lt_of_lt_of_le (hfp b hb).2 (Nat.le_of_succ_le h2)) (Nat.lt_irrefl _)
    · rcases (hfp b hb).1.2.2.2.1 with z | z
      · exact I.ok.noex b o e z
      · exact absurd (Nat.lt_of_lt_of_le (Heap.lt_size e) (Nat.le_trans I.ok.bsz z)) (Nat.lt_irrefl _)
    · rcases List.mem_cons.mp (I.stkSub b z) with z | z
      · exact (hfp b hb).1.2.1 z
      · exact (hfp b hb).1.2.2.1 z
  refine ⟨okB, rfl, I.bare, Un.kept kp, ⟨fun _ => none, ?_, fun i y av e1 e2 e3 => ?_⟩, fun y c e => ?_, ?_, fun y c e => ?_, fun p hp => ?_, I.hok.kept kp, by rw [wipe_length]; exact I.len⟩
  · show Heap.Ns _ cenv.locals _
    rw [hL]
    exact Heap.Ns.keeps (Heap.Ns.new ..) fun b o e => pushCells_keeps _ _ _ _ e
  · obtain ⟨e2, hne⟩ := wipe_some e2
    have hfr : scope.names.lookup y = some .free ∧ (cenv.kindOf y = some .cell ∨ cenv.kindOf y = some .free) := by
      have key : ∀ k, cenv.scope.names.lookup y = some k → k = .local ∨ k = .cell ∨ k = .free → scope.names.lookup y = some .free ∧ (cenv.kindOf y = some .cell ∨ cenv.kindOf y = some .free) := fun k hk hk' => by
        have hk0 := hk
        rw [hsc] at hk
        obtain ⟨k', e, r⟩ := lookup_relS hk
        have no : ¬ (k' = .local ∨ k' = .cell) := fun hh => by
          rcases ok.own _ (PySem.mem_of_lookup e) hh with e' | e'
          · obtain ⟨p, hp, hpy⟩ := List.mem_map.mp e'
            have e3 := ok.ix p hp
            have : p.1 = y := hpy
            rw [this] at e3
            exact hne (List.mem_map.mpr ⟨p, hp, nodup_ix hN e3 e1⟩)
          · exact e' (List.mem_of_getElem? e1)
        rcases r with rfl | ⟨rfl, rfl⟩
        · rcases hk' with rfl | rfl | rfl
          · exact absurd (.inl rfl) no
          · exact absurd (.inr rfl) no
          · exact ⟨e, .inr hk0⟩
        · exact ⟨e, .inl hk0⟩
      have e3 : Vis cenv.scope y := e3
      rcases e3 with e3 | e3 | e3
      · exact key _ e3 (.inl rfl)
      · exact key _ e3 (.inr (.inl rfl))
      · exact key _ e3 (.inr (.inr rfl))
    obtain ⟨m, hn, hl⟩ := I.loc
    have hvis : Vis X.env.scope y := (ok.free _ (PySem.mem_of_lookup hfr.1) rfl).elim (fun k => .inr (.inl k)) (fun k => .inr (.inr k))
    obtain ⟨w, r, q⟩ := hl i y av e1 e2 hvis
    refine ⟨w, r, .inr ⟨hfr.2, ?_⟩⟩
    obtain ⟨c, h1, h2⟩ := look hfr.1
    rcases q with ⟨k, _⟩ | ⟨_, c', e', z⟩
    · have k : X.env.scope.names.lookup y = some .local := k
      rcases ok.free _ (PySem.mem_of_lookup hfr.1) rfl with k' | k' <;> rw [show X.env.scope.names.lookup y = _ from k'] at k <;> cases k
    · rw [h2] at e'; cases e'
      exact ⟨c, h1, z.keeps kp⟩
  · have e : cenv.cells.lookup y = some c := e
    rcases mem e with ⟨h1, _⟩ | ⟨_, z⟩
    · obtain ⟨w, z⟩ := I.cell y c h1
      exact ⟨w, z.keeps kp⟩
    · exact ⟨_, z⟩
  · show H cenv.locals = none
    rw [hL]; exact I.hok.fresh (Nat.le_refl _)
  · have e : cenv.cells.lookup y = some c := e
    rcases mem e with ⟨h1, _⟩ | ⟨h1, _⟩
    · exact I.freeC y c h1
    · exact I.hok.fresh (Nat.le_of_succ_le h1)
  · exact absurd (show p ∈ ([] : List (Addr × Obj)) ++ [] from hp) (by simp)

/-- an item appended to a tracked list -/
theorem app_ok {E : Value → Shared → Prop} {D : Addr} {xs : List V} {y : V} {v : Value} {Q : Value → Shared → Prop} (I : Inv X pins σ H s) (hD : H D = some (.lst xs)) (hz : xs.length < sizeLine) (r : RelV y v)
    (h : ∀ s', Inv X pins σ (upd H D (.lst (xs ++ [y]))) s' → Q .none s') : wpAny (model X.prog X.w) X.A (call (.builtin "list.append") [.ref D, v]) Q E s := by
  obtain ⟨hz', its, n, ri, e⟩ := I.hok D _ hD
  have hl := ri.length
  refine append_at (hsz := by rw [List.size_toArray]; omega) e fun h' sb ho' => ?_
  refine h { s with heap := h' } (I.write (t' := s.toks) (by rw [hD]; trivial) (.inl rfl) (fun b u hb q => (sb.2 b hb).trans q) ⟨_, ho'⟩ ⟨by rw [List.length_append]; exact hz, its ++ [v], n + 1, ri.append (.cons r .nil), ?_⟩)
  rw [ho']
  simp

/-- a clause's tests -/
def PTs (X : Cx) (ifs : List Expr) (t : TT) : Prop :=
  ∀ (pins : List (Addr × Obj)) (s : Shared) (σ : St) (H : Hp) (Q : Bool → Hp → Prop), Inv X pins σ H s → t σ H Q →
    wpAny (model X.prog X.w) X.A (forIn ifs true fun c r => if r = true then do let ok ← isTrue c X.env (eval c X.env); pure (ForInStep.yield ok) else pure (ForInStep.yield r)) (TP X pins σ Q) X.xe s
def tYes : TT := fun _ H Q => Q true H
theorem pts_nil : PTs X [] tYes := fun _ _ _ H _ I h => wpAny_tests_nil ⟨H, I, h⟩
theorem pts_one {c : Expr} {t : TT} (h : PT X c t) : PTs X [c] t := fun pins s σ H Q I hw => wpAny_tests_one (h pins s σ H Q I hw)
end

theorem thnF {α : Type} {t : Sem α} {Q Q' : α → Shared → Prop} {M : Model} {A : Around} {E : Value → Shared → Prop} {s : Shared} (h : wpAny M A t Q (fun _ _ => False) s) (hQ : ∀ a s, Q a s → Q' a s) : wpAny M A t Q' E s := wpAny_mono h hQ fun _ _ z => False.elim z

/-- the loop of a list comprehension's block, the target of any form (codeAny_compLoop_tests asks a target that no tuple goes to; statement and proof follow it, PyProof/CompMap.lean:41-61, with the step letOwnedTupleGo kept) -/
theorem compLoop_any {prog : Program} {w : World} {A : Around} {R : Result → Shared → Prop} {s : Shared} {elt target iter : Expr} {ifs : List Expr} {scope : Scope} {pos : Pos} {it acc : Value} {env : Env} (I : Nat → Shared → Prop)
    (turn : ∀ n s, I n s → wpAny (model prog w) A (pyNext it) (fun r s₁ => match r with
      | none => R (.ok .next) s₁
      | some v => wpAny (model prog w) A (letOwnedTupleGo target it v) (fun _ s₁' => wpAny (model prog w) A (assign target env v) (fun _ s₂ =>
          wpAny (model prog w) A (forIn ifs true fun c r => if r = true then do let ok ← isTrue c env (eval c env); pure (ForInStep.yield ok) else pure (ForInStep.yield r)) (fun ok s₃ =>
            if ok = true then wpAny (model prog w) A (eval elt env) (fun x s₄ =>
              wpAny (model prog w) A (call (.builtin "list.append") [acc, x]) (fun _ s₅ => ∃ m, m < n ∧ I m s₅) (notedBy (model prog w) A env fun e s' => R (.error e) s') s₄) (notedBy (model prog w) A env fun e s' => R (.error e) s') s₃
            else ∃ m, m < n ∧ I m s₃) (notedBy (model prog w) A env fun e s' => R (.error e) s') s₂) (notedBy (model prog w) A env fun e s' => R (.error e) s') s₁') (notedBy (model prog w) A env fun e s' => R (.error e) s') s₁) (notedBy (model prog w) A env fun e s' => R (.error e) s') s)
    (n : Nat) (h : I n s) :
    codeAny (model prog w) A (.compLoop (.ListComp elt [⟨target, iter, ifs, 0⟩] scope pos) 0 it acc env) R s := by
  refine codeAny_loop rfl I (fun n s hI => ?_) n h
  show wpAny _ A ((compTurn (.ListComp elt [⟨target, iter, ifs, 0⟩] scope pos) 0 it acc env).onRaise (fun x => do noteFrame x env; theTreesLotGoes x)) _ _ s
  refine wpAny_noted ?_
  rw [compTurn_list]
  refine wpAny_bind (wpAny_standAt (wpAny_bind (wpAny_mono (turn n s hI) (fun r s₁ h₁ => ?_) fun _ _ h' => h')))
  cases r with
  | none => exact wpAny_pure h₁
  | some v =>
    refine wpAny_bind (wpAny_mono h₁ (fun _ s₁' h₁' => ?_) fun _ _ h' => h')
    refine wpAny_bind (wpAny_mono h₁' (fun _ s₂ h₂ => wpAny_bind (wpAny_mono h₂ (fun ok s₃ h₃ => ?_) fun _ _ h' => h')) fun _ _ h' => h')
    cases ok with
    | false => exact wpAny_pure ⟨rfl, h₃⟩
    | true =>
      exact wpAny_bind (wpAny_bind (wpAny_mono h₃ (fun x s₄ h₄ => wpAny_bind (wpAny_mono h₄ (fun _ s₅ h₅ => wpAny_pure (wpAny_pure ⟨rfl, h₅⟩)) fun _ _ h' => h')) fun _ _ h' => h'))

section
variable {X : Cx}
/-- [elt for target in iter if ..]: D the new list; W by the turn and a measure, Nx what a turn is to reach -/
def tLc (wi : TI) (g : TG) (tt : TT) (te : TE) (vs : List Nat) : TE := fun σ H Q => wi σ H fun J H1 => ∀ D, H1 D = none → ∃ W : Nat → Nat → Hp → Prop, (∃ m, W 0 m (upd H1 D (.lst []))) ∧ ∀ i m H, W i m H →
  (J.stop i H ∧ Q (.ref D) H) ∨ (J.go i H ∧ ∃ Nx : Hp → Prop, (∀ H', Nx H' → ∃ m', m' < m ∧ W (i + 1) m' H') ∧ ∀ x H', J.yld i H x H' → g x (wipe σ vs) H' fun σ2 H2 => wipe σ2 vs = wipe σ vs ∧ tt σ2 H2 fun b H3 =>
    if b = true then te σ2 H3 fun y H4 => ∃ acc, H4 D = some (.lst acc) ∧ acc.length < sizeLine ∧ Nx (upd H4 D (.lst (acc ++ [y]))) else Nx H3)
theorem lc_core {pins : List (Addr × Obj)} {s : Shared} {σ : St} {H : Hp} {Q : VK} {elt tg iter : Expr} {ifs : List Expr} {scope : Scope} {own : List (Str × Nat)} {pos pos' : Pos} {wi : TI} {g : TG} {tt : TT} {te : TE} {use : Option (Value → Sem Unit)} {Qf : Value → Shared → Prop}
    (hc : X.calm = true) (hN : X.N.Nodup) (I : Inv X pins σ H s) (hi : PI X tg iter wi) (ok : BlkOk X.N X.env.scope scope own)
    (hg : ∀ (s : Shared) (H : Hp) (C : Addr) (cl : List (Str × Addr)) (fp : List Addr), PG (X.blk s H scope (compEnvC scope cl C X.env) fp) tg g) (ht : ∀ (s : Shared) (H : Hp) (C : Addr) (cl : List (Str × Addr)) (fp : List Addr), PTs (X.blk s H scope (compEnvC scope cl C X.env) fp) ifs tt)
    (he : ∀ (s : Shared) (H : Hp) (C : Addr) (cl : List (Str × Addr)) (fp : List Addr), PE (X.blk s H scope (compEnvC scope cl C X.env) fp) elt te) (hs : ∀ x, foldedSetIterable iter X.env x = pure x)
    (h : tLc wi g tt te (own.map (·.2)) σ H Q)
    (hRR : ∀ D C s' m H', Inv X pins σ H' s' → Q (.ref D) H' → s'.heap.Ns C m → FpOk X pins H' C → compPost (model X.prog X.w) X.A X.xe use Qf (.ref D) C (.ok .next) s') :
    wpAny (model X.prog X.w) X.A (comprehension (.ListComp elt [⟨tg, iter, ifs, 0⟩] scope pos) scope X.env pos' (newList []) false (eval iter X.env) use) Qf X.xe s := by
  have hfree : ∀ y ∈ scope.names, y.2 = .free → ∃ c, X.env.cells.lookup y.1 = some c := fun y hy e => by
    rcases ok.free y hy e with k | k
    · exact I.ok.has _ (.inl k)
    · exact I.ok.has _ (.inr k)
  refine wpAny_comprehension_free (use := use) rfl hs (closure_ok hfree) ok.kind (fun y hy e => by rw [ok.uniq y hy, e])
    (thn (hi pins s σ H _ I h) fun xv s1 hx => thn hx fun itv s2 h2 => ?_)
  obtain ⟨it, fp, tn, J, H2, e, I2, T, st2, f2, q⟩ := h2
  subst e
  refine wpAny_newObj_type (newEnv_comp ?_) (by show 0 ≤ sizeLine; decide)
  generalize hD : s2.heap.objs.size = D
  have hDn : H2 D = none := I2.hok.fresh (Nat.le_of_eq hD)
  obtain ⟨W, ⟨m0, w0⟩, turn⟩ := q D hDn
  -- the new list
  generalize hs3 : ({ s2 with heap := s2.heap.push { cls := .type "list", data := .seq ([] : List Value).toArray } } : Shared) = s3
  have I3 : Inv X pins σ (upd H2 D (.lst [])) s3 := by
    rw [← hs3]
    refine I2.laid (t' := s2.toks) (fun b o e => Heap.get?_push_of_some _ e) (Nat.le_of_eq hD) ⟨Nat.zero_le _, [], 0, .nil, ?_⟩
    rw [← hD]
    exact Heap.get?_push_size _ rfl
  have h3 : s3.heap = s2.heap.push { cls := .type "list", data := .seq ([] : List Value).toArray } := by rw [← hs3]
  have sz : ∀ b ∈ fp, b < s2.heap.objs.size := fun b hb => by
    obtain ⟨o, e, _⟩ := T.obj _ _ st2 b hb
    exact Heap.lt_size e
  have f3 : ∀ b ∈ fp, FpOk X pins (upd H2 D (.lst [])) b ∧ b < s3.heap.objs.size := fun b hb => by
    have hlt := sz b hb
    refine ⟨⟨?_, (f2 b hb).2⟩, by rw [h3, Heap.size_push]; exact Nat.lt_succ_of_lt hlt⟩
    rw [upd_ne (by rw [← hD]; exact Nat.ne_of_lt hlt)]
    exact (f2 b hb).1
  have st3 : tn 0 s3.heap := T.keep _ _ _ st2 fun b _ o e => by rw [h3]; exact Heap.get?_push_of_some _ e
  have I4 := block_start I3 ok hN f3
  have pg := hg s3 (upd H2 D (.lst [])) s3.heap.objs.size (cellsFrom (s3.heap.objs.size + 1) scope.names (cloFrom X.env.cells scope.names [])) fp
  have pt := ht s3 (upd H2 D (.lst [])) s3.heap.objs.size (cellsFrom (s3.heap.objs.size + 1) scope.names (cloFrom X.env.cells scope.names [])) fp
  have pe := he s3 (upd H2 D (.lst [])) s3.heap.objs.size (cellsFrom (s3.heap.objs.size + 1) scope.names (cloFrom X.env.cells scope.names [])) fp
  show codeAny _ _ (.compStart (.ListComp elt [⟨tg, iter, ifs, 0⟩] scope pos) 0 (.ref it) (.ref D) (compEnvC scope (cellsFrom (s3.heap.objs.size + 1) scope.names (cloFrom X.env.cells scope.names [])) s3.heap.objs.size X.env)) (compPost (model X.prog X.w) X.A X.xe use Qf (.ref D) s3.heap.objs.size) { s3 with heap := pushCells (s3.heap.push { cls := .type "dict", data := .dict #[] }) scope.names }
  have nfp : ∀ b ∈ fp, (upd H2 D (.lst [])) b = none := fun b hb => (f3 b hb).1.1
  generalize hce : compEnvC scope (cellsFrom (s3.heap.objs.size + 1) scope.names (cloFrom X.env.cells scope.names [])) s3.heap.objs.size X.env = ce at I4 pg pt pe ⊢
  have cL : ce.locals = s3.heap.objs.size := by subst hce; rfl
  generalize hH3 : upd H2 D (.lst []) = H3 at I3 I4 pg pt pe w0 nfp f3
  generalize hs4 : ({ s3 with heap := pushCells (s3.heap.push { cls := .type "dict", data := .dict #[] }) scope.names } : Shared) = s4 at I4 ⊢
  have st4 : tn 0 s4.heap := T.keep _ _ _ st3 fun b _ o e => by rw [← hs4]; exact pushCells_keeps _ _ _ _ (Heap.get?_push_of_some _ e)
  have stat : ∀ {σ' : St} {H' : Hp} {s' : Shared}, Inv (X.blk s3 H3 scope ce fp) [] σ' H' s' → (∀ b ∈ fp, H' b = none) → ∀ b ∈ fp, FpOk (X.blk s3 H3 scope ce fp) [] H' b := fun {σ' H' s'} I' hn b hb =>
    ⟨hn b hb, (I'.ok.exf b hb).1, I'.ok.exfs b hb, .inl hb, fun x c e => (I'.ok.exf b hb).2 x c e, fun p hp => absurd (show p ∈ ([] : List (Addr × Obj)) ++ [] from hp) (by simp)⟩
  have loop : codeAny (model X.prog X.w) X.A (.compLoop (.ListComp elt [⟨tg, iter, ifs, 0⟩] scope pos) 0 (.ref it) (.ref D) ce) (compPost (model X.prog X.w) X.A X.xe use Qf (.ref D) s3.heap.objs.size) s4 := by
    refine compLoop_any (fun n s' => ∃ i H', Inv (X.blk s3 H3 scope ce fp) [] (wipe σ (own.map (·.2))) H' s' ∧ tn i s'.heap ∧ (∀ b ∈ fp, H' b = none) ∧ W i n H') ?_ m0 ⟨0, H3, I4, st4, nfp, w0⟩
    rintro n s5 ⟨i, H5, I5, st5, n5, w5⟩
    rcases turn i n H5 w5 with ⟨stop, qq⟩ | ⟨go, Nx, hNx, step⟩
    · have td := T.done (X.blk s3 H3 scope ce fp) rfl rfl rfl hc i [] s5 _ H5 (fun _ _ => False) I5 (stat I5 n5) st5 stop
      refine thnF td fun r s6 ⟨hr, I6⟩ => ?_
      subst hr
      -- back in the def's context
      have I7 : Inv X pins σ H5 s6 := I3.call' (ch := fp) I6.os I6.base I6.hok I6.bare fun b hb => ⟨(f3 b hb).1.2.2.2.1, (f3 b hb).1.2.1, (f3 b hb).1.2.2.2.2.1, (f3 b hb).1.2.2.2.2.2⟩
      have nC : H5 s3.heap.objs.size = none := by
        have z : H5 ce.locals = none := I6.free
        rw [cL] at z
        exact z
      obtain ⟨m, hn, _⟩ := I6.loc
      have hn : s6.heap.Ns ce.locals m := hn
      rw [cL] at hn
      exact hRR D s3.heap.objs.size s6 m H5 I7 qq hn (I3.fpOk (Nat.le_refl _) nC)
    · have ti := T.item (X.blk s3 H3 scope ce fp) rfl rfl rfl hc i [] s5 _ H5 (fun _ _ => False) I5 (stat I5 n5) st5 go
      refine thnF ti fun r s6 ⟨u, hr, h6⟩ => ?_
      subst hr
      refine thnF h6 fun _ s7 ⟨x, H7, I7, r7, y7, st7, n7⟩ => ?_
      have I7' := I7.pinned (stat I7 n7) (T.obj _ _ st7)
      refine thnF (pg _ s7 _ H7 x u _ I7' r7 (step x H7 y7)) fun _ s8 ⟨σ8, H8, I8, hw8, q8⟩ => ?_
      refine thnF (pt _ s8 σ8 H8 _ I8 q8) fun b s9 ⟨H9, I9, q9⟩ => ?_
      -- the turn's end
      have fin : ∀ {s' : Shared} {H' : Hp}, Inv (X.blk s3 H3 scope ce fp) ([] ++ pinsAt fp s7.heap) σ8 H' s' → Nx H' → ∃ m, m < n ∧ ∃ i H', Inv (X.blk s3 H3 scope ce fp) [] (wipe σ (own.map (·.2))) H' s' ∧ tn i s'.heap ∧ (∀ b ∈ fp, H' b = none) ∧ W i m H' := fun {s' H'} I' nx => by
        obtain ⟨m', hm, w'⟩ := hNx H' nx
        have pin' : ∀ b ∈ fp, ∀ o, s7.heap.get? b = some o → s'.heap.get? b = some o ∧ H' b = none := fun b hb o e =>
          let z := I'.pin (b, o) (List.mem_append_right _ (List.mem_append_right _ (mem_pinsAt hb e)))
          ⟨z.1, z.2.1⟩
        have hl : (wipe σ (own.map (·.2))).length = σ8.length := by rw [← hw8, wipe_length]
        refine ⟨m', hm, i + 1, H', (I'.unpinned (pins := [])).weak hl (fun j v e => ?_), T.keep _ _ _ st7 fun b hb o e => (pin' b hb o e).1, fun b hb => ?_, w'⟩
        · rw [← hw8] at e
          exact (wipe_some e).1
        · obtain ⟨o, e, _⟩ := T.obj _ _ st7 b hb
          exact (pin' b hb o e).2
      cases b with
      | false =>
        simp only [Bool.false_eq_true, if_false] at q9 ⊢
        exact fin I9 q9
      | true =>
        simp only [if_true] at q9 ⊢
        refine thnF (pe _ s9 σ8 H9 _ I9 q9) fun z s10 ⟨yv, H10, I10, r10, acc, hD10, hz10, nx⟩ => ?_
        exact app_ok (X := X.blk s3 H3 scope ce fp) I10 hD10 hz10 r10 fun s11 I11 => fin I11 nx
  exact codeAny_compStart_list loop (T.self X.A 0 _ _ _ st4 loop)
/-- as a value -/
theorem pe_lc {elt tg iter : Expr} {ifs : List Expr} {scope : Scope} {own : List (Str × Nat)} {pos : Pos} {wi : TI} {g : TG} {tt : TT} {te : TE} (hc : X.calm = true) (hN : X.N.Nodup) (hi : PI X tg iter wi) (ok : BlkOk X.N X.env.scope scope own)
    (hg : ∀ (s : Shared) (H : Hp) (C : Addr) (cl : List (Str × Addr)) (fp : List Addr), PG (X.blk s H scope (compEnvC scope cl C X.env) fp) tg g) (ht : ∀ (s : Shared) (H : Hp) (C : Addr) (cl : List (Str × Addr)) (fp : List Addr), PTs (X.blk s H scope (compEnvC scope cl C X.env) fp) ifs tt)
    (he : ∀ (s : Shared) (H : Hp) (C : Addr) (cl : List (Str × Addr)) (fp : List Addr), PE (X.blk s H scope (compEnvC scope cl C X.env) fp) elt te) (hs : ∀ x, foldedSetIterable iter X.env x = pure x := by intro _; rfl) :
    PE X (.ListComp elt [⟨tg, iter, ifs, 0⟩] scope pos) (tLc wi g tt te (own.map (·.2))) := by
  intro pins s σ H Q I h
  rw [eval_ListComp]
  refine lc_core hc hN I hi ok hg ht he hs h fun D C s' m H' I' q hn f => ⟨m, hn, fun h'' sb => ?_⟩
  obtain ⟨f0, f1, f2, f3, f4, f5⟩ := f
  exact ⟨.ref D, H', I'.turned (t' := s'.toks) (fun b o hb e => (sb.2 b hb).trans e) f0 f1 f3 f4 f5, rfl, q⟩
/-- name = [..] on one line, the name a local -/
theorem ps_setLc {i : Nat} {y : Str} {py : Pos} {elt tg iter : Expr} {ifs : List Expr} {scope : Scope} {own : List (Str × Nat)} {pos spos : Pos} {wi : TI} {g : TG} {tt : TT} {te : TE} (hc : X.calm = true) (hN : X.N.Nodup) (hy : X.N[i]? = some y) (hyl : X.env.scope.names.lookup y = some .local)
    (hsw : swapsWith (.ListComp elt [⟨tg, iter, ifs, 0⟩] scope pos) (some (.Name y py)) spos.line X.env = pure true) (hi : PI X tg iter wi) (ok : BlkOk X.N X.env.scope scope own)
    (hg : ∀ (s : Shared) (H : Hp) (C : Addr) (cl : List (Str × Addr)) (fp : List Addr), PG (X.blk s H scope (compEnvC scope cl C X.env) fp) tg g) (ht : ∀ (s : Shared) (H : Hp) (C : Addr) (cl : List (Str × Addr)) (fp : List Addr), PTs (X.blk s H scope (compEnvC scope cl C X.env) fp) ifs tt)
    (he : ∀ (s : Shared) (H : Hp) (C : Addr) (cl : List (Str × Addr)) (fp : List Addr), PE (X.blk s H scope (compEnvC scope cl C X.env) fp) elt te) (hs : ∀ x, foldedSetIterable iter X.env x = pure x := by intro _; rfl) :
    PS X (.Assign [.Name y py] (.ListComp elt [⟨tg, iter, ifs, 0⟩] scope pos) spos) (tAsg (tLc wi g tt te (own.map (·.2))) (gName i)) := by
  intro pins s σ H D I h
  rw [exec_Assign_Name_used _ _ _ _ hsw]
  refine wpAny_bind (wpAny_standAt (wpAny_bind ?_))
  show wpAny _ X.A (do let _ ← comprehension (.ListComp elt [⟨tg, iter, ifs, 0⟩] scope pos) scope X.env (firstIterPos [⟨tg, iter, ifs, 0⟩] pos) (newList []) false (eval iter X.env) (some (assign (.Name y py) X.env))) _ _ s
  have h : tLc wi g tt te (own.map (·.2)) σ H (fun x H1 => gName i x σ H1 D.nx) := h
  refine wpAny_bind (thn (lc_core (Qf := fun _ s' => SP X pins D .next s') hc hN I hi ok hg ht he hs h fun L C s' m H' I' q hn f => ?_) fun _ s' hq => wpAny_pure (wpAny_pure hq))
  show wpAny _ _ (assign (.Name y py) X.env (.ref L)) _ _ _
  refine wpAny_assign_Name (store_ok2 (v := V.ref L) I' hN hy (.inl hyl) rfl (fun s2 I2 ⟨a, sb, ha⟩ => ?_) (.inr hyl))
  obtain ⟨f0, f1, f2, f3, f4, f5⟩ := f
  have haC : C ≠ a := by
    rcases ha with z | z
    · rw [z]; exact f1
    · exact fun e => f4 y a z e.symm
  refine ⟨m, hn.sameBut sb haC, fun h3 sb3 => ?_⟩
  exact ⟨_, H', I2.turned (t' := s2.toks) (fun b o hb e => (sb3.2 b hb).trans e) f0 f1 f3 f4 f5, q⟩
theorem sw_true {elt : Expr} {gs : List Comprehension} {scope : Scope} {pos py : Pos} {y : Str} {l : Nat} {env : Env} (hk : env.scope.kind = .function) (hy : env.scope.names.lookup y = some .local) (hl : (py.line == pos.line) = true)
    (ha : (scope.names.any fun (n, k) => n == y && (k == .local || k == .cell)) = false) : swapsWith (.ListComp elt gs scope pos) (some (.Name y py)) l env = pure true := by
  have ky : env.kindOf y = some .local := hy
  have hb : env.blockKind = .function := by unfold Env.blockKind; rw [hk]; rfl
  unfold swapsWith
  simp only [hb, ky, ha, Expr.pos, hl]
  rfl
end

/-! ### the forms one uses -/
/-- over a range: Pv by the turn and the heap (the new list at D within) -/
theorem lc_range {lo : Int} {n : Nat} {g : TG} {tt : TT} {te : TE} {vs : List Nat} {σ : St} {H1 : Hp} {D : Addr} {Qd : Hp → Prop} (Pv : Nat → Hp → Prop) (h0 : Pv 0 (upd H1 D (.lst [])))
    (hs : ∀ i H, i < n → Pv i H → g (.int (lo + i)) (wipe σ vs) H fun σ2 H2 => wipe σ2 vs = wipe σ vs ∧ tt σ2 H2 fun b H3 =>
      if b = true then te σ2 H3 fun y H4 => ∃ acc, H4 D = some (.lst acc) ∧ acc.length < sizeLine ∧ Pv (i + 1) (upd H4 D (.lst (acc ++ [y]))) else Pv (i + 1) H3) (hd : ∀ H, Pv n H → Qd H) :
    ∃ W : Nat → Nat → Hp → Prop, (∃ m, W 0 m (upd H1 D (.lst []))) ∧ ∀ i m H, W i m H →
      ((Itr lo n).stop i H ∧ Qd H) ∨ ((Itr lo n).go i H ∧ ∃ Nx : Hp → Prop, (∀ H', Nx H' → ∃ m', m' < m ∧ W (i + 1) m' H') ∧ ∀ x H', (Itr lo n).yld i H x H' → g x (wipe σ vs) H' fun σ2 H2 => wipe σ2 vs = wipe σ vs ∧ tt σ2 H2 fun b H3 =>
        if b = true then te σ2 H3 fun y H4 => ∃ acc, H4 D = some (.lst acc) ∧ acc.length < sizeLine ∧ Nx (upd H4 D (.lst (acc ++ [y]))) else Nx H3) := by
  refine ⟨fun i m H => m = n - i ∧ i ≤ n ∧ Pv i H, ⟨n, by simp, Nat.zero_le _, h0⟩, ?_⟩
  rintro i m H ⟨rfl, hi, p⟩
  by_cases hlt : i < n
  · refine .inr ⟨hlt, Pv (i + 1), fun H' p' => ⟨n - (i + 1), by omega, rfl, hlt, p'⟩, fun x H' y => ?_⟩
    obtain ⟨e, y⟩ := y
    subst e y
    exact hs i _ hlt p
  · have e : i = n := by omega
    subst e
    exact .inl ⟨Nat.le_refl _, hd H p⟩
/-- over a list that the block leaves as it is -/
theorem lc_list {K : PySem.W.Frag} {a : Addr} {xs : List V} {g : TG} {tt : TT} {te : TE} {vs : List Nat} {σ : St} {H1 : Hp} {D : Addr} {Qd : Hp → Prop} (Pv : Nat → Hp → Prop) (h0 : Pv 0 (upd H1 D (.lst []))) (hl : ∀ i H, i ≤ xs.length → Pv i H → SqL K H a xs)
    (hs : ∀ i x H, xs[i]? = some x → Pv i H → g x (wipe σ vs) H fun σ2 H2 => wipe σ2 vs = wipe σ vs ∧ tt σ2 H2 fun b H3 =>
      if b = true then te σ2 H3 fun y H4 => ∃ acc, H4 D = some (.lst acc) ∧ acc.length < sizeLine ∧ Pv (i + 1) (upd H4 D (.lst (acc ++ [y]))) else Pv (i + 1) H3) (hd : ∀ H, Pv xs.length H → Qd H) :
    ∃ W : Nat → Nat → Hp → Prop, (∃ m, W 0 m (upd H1 D (.lst []))) ∧ ∀ i m H, W i m H →
      ((Itl K a).stop i H ∧ Qd H) ∨ ((Itl K a).go i H ∧ ∃ Nx : Hp → Prop, (∀ H', Nx H' → ∃ m', m' < m ∧ W (i + 1) m' H') ∧ ∀ x H', (Itl K a).yld i H x H' → g x (wipe σ vs) H' fun σ2 H2 => wipe σ2 vs = wipe σ vs ∧ tt σ2 H2 fun b H3 =>
        if b = true then te σ2 H3 fun y H4 => ∃ acc, H4 D = some (.lst acc) ∧ acc.length < sizeLine ∧ Nx (upd H4 D (.lst (acc ++ [y]))) else Nx H3) := by
  refine ⟨fun i m H => m = xs.length - i ∧ i ≤ xs.length ∧ Pv i H, ⟨xs.length, by simp, Nat.zero_le _, h0⟩, ?_⟩
  rintro i m H ⟨rfl, hi, p⟩
  have q := hl i H hi p
  by_cases hlt : i < xs.length
  · refine .inr ⟨⟨xs, xs[i], q, by simp [hlt]⟩, Pv (i + 1), fun H' p' => ⟨xs.length - (i + 1), by omega, rfl, hlt, p'⟩, fun x H' y => ?_⟩
    obtain ⟨e, y⟩ := y
    subst e
    exact hs i x _ (y xs q) p
  · have e : i = xs.length := by omega
    subst e
    exact .inl ⟨⟨xs, q, Nat.le_refl _⟩, hd H p⟩
def blkC (N : List Str) (sc scope : Scope) (own : List (Str × Nat)) : Bool :=
  (match scope.kind with | .function => true | _ => false) && (scope.names.all fun y => decide (scope.names.lookup y.1 = some y.2)) && (own.all fun p => decide (N[p.2]? = some p.1)) &&
    (scope.names.all fun y => match y.2 with
      | .free => (match sc.names.lookup y.1 with | some .cell => true | some .free => true | _ => false)
      | .local => decide (y.1 ∈ own.map (·.1)) || decide (y.1 ∉ N)
      | .cell => decide (y.1 ∈ own.map (·.1)) || decide (y.1 ∉ N)
      | _ => true)
theorem blkOk_by {N : List Str} {sc scope : Scope} {own : List (Str × Nat)} (h : blkC N sc scope own = true) : BlkOk N sc scope own := by
  unfold blkC at h
  simp only [Bool.and_eq_true, List.all_eq_true, decide_eq_true_eq] at h
  obtain ⟨⟨⟨h1, h2⟩, h3⟩, h4⟩ := h
  refine ⟨?_, h2, h3, fun y hy e => ?_, fun y hy e => ?_⟩
  · split at h1
    · assumption
    · cases h1
  · have q := h4 y hy
    simp only [e] at q
    split at q <;> first | exact .inl (by assumption) | exact .inr (by assumption) | cases q
  · have q := h4 y hy
    rcases e with e | e <;> (simp only [e, Bool.or_eq_true, decide_eq_true_eq] at q; exact q)
end L2

namespace L2
open PySem PySem.Spec PyProof.Rows


section
variable {prog : Program} {w : World} {A : Around} {R : Result → Shared → Prop} {s : Shared} {elt t0 i0 t1 i1 : Expr} {ifs0 ifs1 : List Expr} {scope : Scope} {pos : Pos} {it acc : Value} {env : Env}
end

section
variable {X : Cx}
end
end L2

namespace L2
open PySem PySem.Spec PyProof.Rows

/-! ### lists of pairs as tables -/
section
variable {κ : Type} [DecidableEq κ]



end


/-! ### a tracked dict, its keys ints and texts or tuples of these -/
theorem kV_is {P : Program} {w : World} {k : Key} {u : Value} (r : RelV (kV k) u) : (mixKind P w).is k u = true := by
  cases k with
  | inl i => obtain ⟨t, e⟩ := (show ∃ t, u = Value.int i t from r); subst e; exact mixKind_int P w i t
  | inr x => obtain ⟨t, e⟩ := (show ∃ t, u = Value.str x t from r); subst e; exact mixKind_str P w x t


section
variable {P : Program} {w : World} {H : Hp} {h : Heap} {a : Addr}
end



section
variable {X : Cx} {pins : List (Addr × Obj)} {σ : St} {H : Hp} {s : Shared} {a : Addr} {y v : V} {u r : Value} {o : Option V} {A : Around} {E : Value → Shared → Prop}


end

section
variable {X : Cx} {pins : List (Addr × Obj)} {σ : St} {H : Hp} {s : Shared} {a : Addr} {kvs : List (Key × V)} {k : Key} {u : Value} {A : Around} {E : Value → Shared → Prop}
end


/-! ### readings and rules -/
/-- the element of a subscription, not a slice -/
def NoSl (i : Expr) : Prop := ∀ ov iv, subscripted i false ov iv = operate [ov, iv] (getItem ov iv)
theorem subD_of {prog : Program} {w : World} {A : Around} {E : Value → Shared → Prop} {s : Shared} {env : Env} {value slice : Expr} {pos : Pos} {T id : String} {Q : Value → Shared → Prop}
    (hl : typeLookup (.type T) "__getitem__" = pure (some (.builtin id))) (hs : NoSl slice)
    (h : wpAny (model prog w) A (eval value env) (fun o s₁ => wpAny (model prog w) A (eval slice env) (fun i s₂ => s₂.TypeIs o T ∧ wpAny (model prog w) A (getItem o i) Q E s₂) E s₁) E s) :
    wpAny (model prog w) A (eval (.Subscript value slice pos) env) Q E s := by
  refine Subscript_ (wpAny_mono h (fun o s₁ h₁ => wpAny_mono h₁ (fun i s₂ h₂ => ?_) fun _ _ x => x) fun _ _ x => x)
  obtain ⟨hT, h₂⟩ := h₂
  unfold subscriptTail
  refine wpAny_bind ?_
  rw [getitemInPython_of_ne hT.not_modules]
  refine wpAny_bind (wpAny_specialOf hT hl ?_)
  have fin : wpAny (model prog w) A (subscripted slice false o i) (fun r s₃ => wpAny (model prog w) A (letTemporaryGo value o r >>= fun _ => pure r) Q E s₃) E s₂ := by
    rw [hs o i]
    exact wpAny_operating (wpAny_mono h₂ (fun r s₃ h₃ => wpAny_bind (wpAny_letTemporaryGo (wpAny_pure h₃))) fun _ _ x => x)
  first
    | exact wpAny_pure (wpAny_bind fin)
    | exact wpAny_bind (wpAny_pure (wpAny_bind fin))
    | exact wpAny_bind fin



section
variable {X : Cx} {o i e value : Expr} {pos pos' tpos : Pos} {td ty tv : TE}
end


/-! ### displays -/
section
variable {X : Cx} {pos : Pos}
end




/-! ### methods -/


section
variable {X : Cx} {pins : List (Addr × Obj)} {σ : St} {H : Hp} {s : Shared} {a : Addr} {y d : V} {u r : Value} {o : Option V} {A : Around} {E : Value → Shared → Prop}
end

section
variable {X : Cx} {o e f : Expr} {apos cpos : Pos} {td ty tx : TE}
end

/-! ### dict(d): a copy -/
section
variable {X : Cx} {pins : List (Addr × Obj)} {σ : St} {H : Hp} {s : Shared} {a : Addr} {kvs : List (Key × V)} {A : Around} {E : Value → Shared → Prop}
end


section
variable {X : Cx} {pins : List (Addr × Obj)} {σ : St} {H : Hp} {s : Shared} {a : Addr} {y : V} {u : Value} {A : Around} {E : Value → Shared → Prop}
end
end L2

namespace L2
open PySem PySem.Spec PyProof.Rows


section
variable {prog : Program} {w : World} {A : Around} {E : Value → Shared → Prop}


end

section
variable {X : Cx}
end
end L2

namespace L2
open PySem PySem.Spec PyProof.Rows


section
variable {X : Cx} {pins : List (Addr × Obj)} {σ : St} {H : Hp} {s : Shared} {h' : Heap}
/-- several records of ours have turned -/
theorem Inv.turnedL {t' : Nat} {ch : List Addr} (I : Inv X pins σ H s) (k : ∀ b o, b ∉ ch → s.heap.get? b = some o → h'.get? b = some o) (hf : ∀ b ∈ ch, FpOk X pins H b) : Inv X pins σ H { s with heap := h', toks := t' } := by
  have nit : ∀ b u, H b = some u → b ∉ ch := fun b u e z => by
    have q := (hf b z).1
    rw [q] at e; cases e
  refine I.step (g' := s.gens) (d' := s.drawn) (ch := ch) (fun b hb => ⟨(hf b hb).2.2.2.1, (hf b hb).2.1, (hf b hb).2.2.2.2.1, (hf b hb).2.2.2.2.2⟩) (fun b o _ _ hc e _ => k b o hc e) (fun b o _ _ hc e _ => ⟨o.slots, k b o hc e⟩)
    (fun _ _ _ _ n => n) (fun b o hc e => ⟨o, k b o hc e⟩) (fun _ _ e => e) (fun _ _ _ e => e) (fun b ps e => ⟨#[], by rw [e]; simp⟩) (fun m hm => ?_) (fun b u e => ?_) I.bare
  · obtain ⟨o, es, ep, ho, r⟩ := hm
    exact ⟨o, es, ep, k _ o (fun z => (hf _ z).2.1 rfl) ho, r⟩
  · refine (I.hok b u e).stay (fun c v hc q => k c v ?_ q) (fun _ q => q) fun _ _ q => q
    rcases hc with z | z
    · rw [z]; exact nit b u e
    · exact nit c _ z
/-- .. and one new object is laid -/
theorem Inv.turnedNew {t' : Nat} {ch : List Addr} {T : Addr} {ob : HO} (I : Inv X pins σ H s) (k : ∀ b o, b ∉ ch → s.heap.get? b = some o → h'.get? b = some o) (hf : ∀ b ∈ ch, FpOk X pins H b) (hT : s.heap.objs.size ≤ T)
    (new : ObjOk X.prog X.w (upd H T ob) h' T ob) : Inv X pins σ (upd H T ob) { s with heap := h', toks := t' } := by
  have hn : H T = none := I.hok.fresh hT
  have nit : ∀ b u, H b = some u → b ∉ ch := fun b u e z => by
    have q := (hf b z).1
    rw [q] at e; cases e
  refine I.step (g' := s.gens) (d' := s.drawn) (ch := ch) (fun b hb => ⟨(hf b hb).2.2.2.1, (hf b hb).2.1, (hf b hb).2.2.2.2.1, (hf b hb).2.2.2.2.2⟩) (fun b o _ _ hc e _ => k b o hc e) (fun b o _ _ hc e _ => ⟨o.slots, k b o hc e⟩)
    (fun b o _ e n => ?_) (fun b o hc e => ⟨o, k b o hc e⟩) (fun b xs e => ?_) (fun b o u e => ?_) (fun b ps e => ⟨#[], ?_⟩) (fun m hm => ?_) (fun b u e => ?_) I.bare
  · rw [upd_ne (Nat.ne_of_lt (Nat.lt_of_lt_of_le (Heap.lt_size e) hT))]; exact n
  · rw [upd_ne (ne_of_none e hn)]; exact e
  · rw [upd_ne (ne_of_none e hn)]; exact e
  · rw [upd_ne (ne_of_none e hn), e]; simp
  · obtain ⟨o, es, ep, ho, r⟩ := hm
    exact ⟨o, es, ep, k _ o (fun z => (hf _ z).2.1 rfl) ho, r⟩
  · by_cases hb : b = T
    · subst hb
      rw [upd_same] at e
      cases e
      exact new
    · rw [upd_ne hb] at e
      refine (I.hok b u e).stay (fun c v hc q => k c v ?_ q) (fun c q => by rw [upd_ne (ne_of_none q hn)]; exact q) fun c xs q => by rw [upd_ne (ne_of_none q hn)]; exact q
      rcases hc with z | z
      · rw [z]; exact nit b u e
      · exact nit c _ z

/-! ### locking a thing while a statement runs -/
end
section
variable {X : Cx}

/-! ### one iterator just laid -/
theorem pi_one {tg : Expr} {pins : List (Addr × Obj)} {σ : St} {H : Hp} {s : Shared} {R : It → Hp → Prop} {J : It} {tn : Nat → Heap → Prop} {tk : Nat} (I : Inv X pins σ H s) (o : Obj)
    (T : Turn X.prog X.w X.K tg J [s.heap.objs.size] s.heap.objs.size tn) (st : tn 0 (s.heap.push o)) (q : R J H) : PIE X pins σ tg R (.ref s.heap.objs.size) { s with heap := s.heap.push o, toks := tk } := by
  refine ⟨s.heap.objs.size, [s.heap.objs.size], tn, J, H, rfl, I.kept fun b ob e => Heap.get?_push_of_some _ e, T, st, fun b hb => ?_, q⟩
  have e : b = s.heap.objs.size := by simpa using hb
  subst e
  exact I.fpOk (Nat.le_refl _) (I.hok.fresh (Nat.le_refl _))
end

/-! ### range with a step -/
/-- lo, lo + c, .. (n of them) -/
def Itc (lo c : Int) (n : Nat) : It := ⟨fun i _ => i < n, fun i H x H' => H' = H ∧ x = .int (lo + (i : Nat) * c), fun i _ => n ≤ i⟩
theorem turn_rangeC {P : Program} {w : World} {K : PySem.W.Frag} {tg : Expr} (it : Addr) (lo c : Int) (n : Nat) : Turn P w K tg (Itc lo c n) [it] it (fun i h => IsRangeIter h it (lo + (i : Nat) * c) ((n : Int) - (i : Nat)) c) where
  mem := by simp
  obj := fun i h st b hb => by
    have e : b = it := by simpa using hb
    subst e
    exact ⟨_, st, fun v z => nomatch z⟩
  keep := fun i h h' st k => k it (by simp) _ st
  item := by
    intro X hP hw hK hc i pins s σ H E I hf st hg
    subst hP hw hK
    obtain ⟨f0, f1, f2, f3, f4, f5⟩ := hf it (by simp)
    have W := Walks.range (prog := X.prog) (w := X.w) (I.ok.hd hc) it lo c n
    refine W.item i s _ _ hg st fun v h' tk hv st' kk => ?_
    obtain ⟨t, rfl⟩ := hv
    have I1 : Inv X pins σ H { s with heap := h', toks := tk } := I.turned (fun b o hb e => kk b o (by simpa using hb) e) f0 f1 f3 f4 f5
    exact ⟨_, rfl, go_of (s := { s with heap := h', toks := tk }) (n := "range_iterator") st' rfl rfl (by decide) ⟨.int (lo + (i : Nat) * c), H, I1, ⟨t, rfl⟩, ⟨rfl, rfl⟩, st', fun b hb => (hf b hb).1⟩⟩
  done := by
    intro X hP hw hK hc i pins s σ H E I hf st hg
    subst hP hw hK
    obtain ⟨f0, f1, f2, f3, f4, f5⟩ := hf it (by simp)
    exact wpAny_pyNext_range_end (I.ok.hd hc) st (by have : n ≤ i := hg; omega) fun h' eb => ⟨rfl, I.turned (t' := s.toks) (fun b o hb e => eb b o hb e) f0 f1 f3 f4 f5⟩
  self := fun A i s Q E st h => wpAny_pyIter_rangeiter st h
/-- range(i, j, c): small bounds, n items -/
def RgC (i j c : Int) (n : Nat) : Prop := c ≠ 0 ∧ c.natAbs < 1073741824 ∧ Builtin.Range.small i j c = true ∧ Builtin.Range.rangeSize i j c = n
def iRng3 (ta : TA) : TI := fun σ H R => ta σ H fun vs H1 => ∃ (i j c : Int) (n : Nat), vs = [.int i, .int j, .int c] ∧ RgC i j c n ∧ R (Itc i c n) H1
section
variable {X : Cx} {tg : Expr}
theorem pi_range3 {a b c : Expr} {ta : TA} {p pos : Pos} (hg : Gl X "range") (hm : X.mg "range" = none) (ha : PA X [a, b, c] ta)
    (hs : starEach [a, b, c] X.env = (false, eval a X.env) :: starEach [b, c] X.env := by rfl) (hpl : (backTo pos (starEach [b, c] X.env)).any (·.1) = false := by rfl) :
    PI X tg (.Call (.Name "range" p) [a, b, c] [] pos) (iRng3 ta) := by
  intro pins s σ H R I h
  refine Call_ (ld_blt I hg hm boot_range (PyProof.Rows.callWith_type1 (thn (ha pos pins s σ H _ I h) fun us s1 ⟨vs, H1, I1, r1, q1⟩ => ?_) hs hpl))
  obtain ⟨i, j, k, n, e, ⟨c0, c1, c2, c3⟩, q⟩ := q1
  subst e
  cases r1 with
  | cons r rr =>
    cases rr with
    | cons r' rr =>
      cases rr with
      | cons r'' rr =>
        cases rr
        obtain ⟨t, rfl⟩ := r
        obtain ⟨t', rfl⟩ := r'
        obtain ⟨t'', rfl⟩ := r''
        refine call_range_3 c0 ?_ (.inl (PyProof.noPylong_small c1))
        refine wpAny_pyIter_range (IsRange.new ..) c2 ?_
        have I2 : Inv X pins σ H1 { s1 with heap := s1.heap.push { cls := .type "range", data := .fields #[.int i t, .int j t', .int k t''] } } := I1.kept (t' := s1.toks) fun b o e => Heap.get?_push_of_some _ e
        refine pi_one (tk := s1.toks) I2 _ (turn_rangeC _ i k n) ?_ q
        have e1 : i + ((0 : Nat) : Int) * k = i := by simp
        have e2 : (n : Int) - ((0 : Nat) : Int) = Builtin.Range.rangeSize i j k := by rw [c3]; simp
        show IsRangeIter _ _ (i + ((0 : Nat) : Int) * k) ((n : Int) - ((0 : Nat) : Int)) k
        rw [e1, e2]
        exact Heap.get?_push_size _ rfl
end

/-! ### reversed(list) -/
section
variable {X : Cx} {tg : Expr}
end

/-! ### a str -/

/-! ### a dict's keys: any dict's entries -/
section
variable {prog : Program} {w : World} {A : Around} {E : Value → Shared → Prop} {s : Shared}
end

/-! ### a locked dict -/
section
variable {X : Cx} {pins : List (Addr × Obj)} {σ : St} {H : Hp} {s : Shared} {d : Addr} {o : Obj}
end

section
variable {P : Program} {w : World} {K : PySem.W.Frag} {tg : Expr} {d : Addr} {o : Obj} {es : Array DictEntry} {ep : Nat}
end

/-! ### for k in d, d.keys(), d.values(), d.items() -/
section
variable {X : Cx} {tg e : Expr} {td : TE} {apos cpos : Pos}
end

/-! ### enumerate(list) -/
/-- the list at a as it stands at each turn, each item in a new pair -/
def Ite (K : PySem.W.Frag) (a : Addr) : It :=
  ⟨fun i H => ∃ (xs : List V) (x : V), SqL K H a xs ∧ xs[i]? = some x, fun i H v H' => ∃ T x, v = .ref T ∧ H T = none ∧ H' = upd H T (.tup [.int (i : Nat), x]) ∧ ∀ xs, SqL K H a xs → xs[i]? = some x, fun i H => ∃ xs : List V, SqL K H a xs ∧ xs.length ≤ i⟩
theorem turn_enum {P : Program} {w : World} {K : PySem.W.Frag} {elts : List Expr} {kk : Nat} {tpos : Pos} (a e it : Addr) :
    Turn P w K (.Tuple elts kk tpos) (Ite K a) [e, it] e (fun i h => (∃ old, IsEnum h e it ((i : Nat) : Int) old) ∧ h.IsListIter it a i ∧ e ≠ it) where
  mem := by simp
  obj := fun i h st b hb => by
    obtain ⟨⟨old, he⟩, ⟨o, ho, hc, hd⟩, _⟩ := st
    have e' : b = e ∨ b = it := by simpa using hb
    rcases e' with z | z
    · rw [z]; exact ⟨_, he, fun v q => nomatch q⟩
    · rw [z]; exact ⟨o, ho, fun v q => by rw [hd] at q; cases q⟩
  keep := fun i h h' st k => let ⟨⟨old, he⟩, hi, hne⟩ := st; ⟨⟨old, k e (by simp) _ he⟩, hi.at fun o q => k it (by simp) o q, hne⟩
  item := by
    intro X hP hw hK hc i pins s σ H E I hf st hg
    subst hP hw hK
    obtain ⟨⟨old, he⟩, hit, hne⟩ := st
    obtain ⟨xs, x, hq, hx⟩ := hg
    obtain ⟨its, rv, p, hz⟩ := I.list hq
    obtain ⟨u, hu, ru⟩ := rv.get hx
    have hel : e < s.heap.objs.size := Heap.lt_size he
    have hil : it < s.heap.objs.size := by obtain ⟨_, q, _⟩ := hit; exact Heap.lt_size q
    refine wpAny_pyNext_enum_item he hit p.isList (x := u) (by simpa using hu) hne fun h' ho hit' hT hsz hk => ?_
    refine ⟨_, rfl, wpAny_letOwnedTupleGo_enum (s := { s with heap := h', toks := s.toks + 1 }) ho fun h'' he' sb => ?_⟩
    have hT2 : h''.get? s.heap.objs.size = some { cls := .type "tuple", data := .seq #[.int i s.toks, u] } := (sb.2 _ (Nat.ne_of_gt hel)).trans hT
    have new : ObjOk X.prog X.w (upd H s.heap.objs.size (.tup [.int (i : Nat), x])) h'' s.heap.objs.size (.tup [.int (i : Nat), x]) :=
      ⟨by show 2 ≤ sizeLine; decide, [.int i s.toks, u], .cons ⟨_, rfl⟩ (.cons ru .nil), ⟨_, hT2, rfl, _, rfl⟩⟩
    have I1 : Inv X pins σ (upd H s.heap.objs.size (.tup [.int (i : Nat), x])) { s with heap := h'', toks := s.toks + 1 } :=
      I.turnedNew (ch := [e, it]) (fun b ob hb q => (sb.2 b (fun z => hb (by simp [z]))).trans (hk b ob (fun z => hb (by simp [z])) (fun z => hb (by simp [z])) q)) hf (Nat.le_refl _) new
    refine ⟨.ref s.heap.objs.size, _, I1, rfl, ⟨_, x, rfl, I.hok.fresh (Nat.le_refl _), rfl, fun ys hy => by rw [I.list_inj hy hq]; exact hx⟩, ⟨⟨u, ?_⟩, hit'.at fun o q => (sb.2 it (Ne.symm hne)).trans q, hne⟩, fun b hb => ?_⟩
    · have e1 : ((i + 1 : Nat) : Int) = (i : Int) + 1 := by omega
      rw [e1]; exact he'
    · have hb' : b < s.heap.objs.size := by
        have e' : b = e ∨ b = it := by simpa using hb
        rcases e' with z | z
        · rw [z]; exact hel
        · rw [z]; exact hil
      rw [upd_ne (Nat.ne_of_lt hb')]
      exact (hf b hb).1
  done := by
    intro X hP hw hK hc i pins s σ H E I hf st hg
    subst hP hw hK
    obtain ⟨⟨old, he⟩, hit, hne⟩ := st
    obtain ⟨xs, hq, hx⟩ := hg
    obtain ⟨its, rv, p, hz⟩ := I.list hq
    obtain ⟨f0, f1, f2, f3, f4, f5⟩ := hf it (by simp)
    have hl := rv.length
    exact wpAny_pyNext_enum_end (I.ok.hd hc) he hit p.isList (by simp; omega) fun h' eb => ⟨rfl, I.turned (t' := s.toks) (fun b o hb q => eb b o hb q) f0 f1 f3 f4 f5⟩
  self := fun A i s Q E st h => let ⟨⟨_, he⟩, _⟩ := st; wpAny_pyIter_enum he h
def iEnum (K : PySem.W.Frag) (ta : TA) : TI := fun σ H R => ta σ H fun vs H1 => ∃ a xs, vs = [.ref a] ∧ SqL K H1 a xs ∧ R (Ite K a) H1
theorem pi_enum {X : Cx} {e : Expr} {ta : TA} {p pos tpos : Pos} {elts : List Expr} {kk : Nat} (hg : Gl X "enumerate") (hm : X.mg "enumerate" = none) (ha : PA X [e] ta) (hs : starEach [e] X.env = [(false, eval e X.env)] := by rfl) :
    PI X (.Tuple elts kk tpos) (.Call (.Name "enumerate" p) [e] [] pos) (iEnum X.K ta) := by
  intro pins s σ H R I h
  refine Call_ (ld_blt I hg hm boot_enumerate (PyProof.Rows.callWith_type1 (thn (ha pos pins s σ H _ I h) fun us s1 ⟨vs, H1, I1, r1, q1⟩ => ?_) hs rfl))
  obtain ⟨a, xs, ex, hq, q⟩ := q1
  subst ex
  cases r1 with
  | cons r rr =>
    cases rr
    cases r
    obtain ⟨its, rv, p', hz⟩ := I1.list hq
    refine call_enumerate_list p'.isList fun h' he hit hsz hk => wpAny_pyIter_enum he ?_
    have I2 : Inv X pins σ H1 { s1 with heap := h' } := I1.kept (t' := s1.toks) hk
    refine ⟨s1.heap.objs.size + 1, [s1.heap.objs.size + 1, s1.heap.objs.size], _, _, H1, rfl, I2, turn_enum a (s1.heap.objs.size + 1) s1.heap.objs.size, ⟨⟨.none, he⟩, hit, Nat.succ_ne_self _⟩, fun b hb => ?_, q⟩
    have e' : b = s1.heap.objs.size + 1 ∨ b = s1.heap.objs.size := by simpa using hb
    have hle : s1.heap.objs.size ≤ b := by
      rcases e' with z | z
      · rw [z]; exact Nat.le_add_right _ _
      · rw [z]; exact Nat.le_refl _
    exact I1.fpOk hle (I1.hok.fresh hle)
/-! ### zip(list, list) -/
theorem boot_zip5 : bootBuiltins "zip" = some (.type "zip") := by decide +kernel
/-- the lists at a and b as they stand at each turn, the items in new pairs -/
def Itz (K : PySem.W.Frag) (a b : Addr) : It :=
  ⟨fun i H => ∃ (xs ys : List V) (x y : V), SqL K H a xs ∧ SqL K H b ys ∧ xs[i]? = some x ∧ ys[i]? = some y,
    fun i H v H' => ∃ T x y, v = .ref T ∧ H T = none ∧ H' = upd H T (.tup [x, y]) ∧ (∀ xs, SqL K H a xs → xs[i]? = some x) ∧ ∀ ys, SqL K H b ys → ys[i]? = some y,
    fun i H => ∃ xs ys : List V, SqL K H a xs ∧ SqL K H b ys ∧ (xs.length ≤ i ∨ ys.length ≤ i)⟩
theorem turn_zip {P : Program} {w : World} {K : PySem.W.Frag} {elts : List Expr} {kk : Nat} {tpos : Pos} {a b z TI TO i1 i2 : Addr} (D : ZipApart z TI TO i1 i2 a b) :
    Turn P w K (.Tuple elts kk tpos) (Itz K a b) [z, TI, TO, i1, i2] z (fun i h => IsZip h z TI TO .none ∧ IsPair h TI (.ref i1) (.ref i2) ∧ (∃ x y, IsPair h TO x y) ∧ h.IsListIter i1 a i ∧ h.IsListIter i2 b i) where
  mem := by simp
  obj := fun i h st c hc => by
    obtain ⟨hz, hTI, ⟨x, y, hTO⟩, ⟨o1, e1, _, d1⟩, ⟨o2, e2, _, d2⟩⟩ := st
    have e' : c = z ∨ c = TI ∨ c = TO ∨ c = i1 ∨ c = i2 := by simpa using hc
    rcases e' with q | q | q | q | q
    · rw [q]; exact ⟨_, hz, fun v q => nomatch q⟩
    · rw [q]; exact ⟨_, hTI, fun v q => nomatch q⟩
    · rw [q]; exact ⟨_, hTO, fun v q => nomatch q⟩
    · rw [q]; exact ⟨o1, e1, fun v q => by rw [d1] at q; cases q⟩
    · rw [q]; exact ⟨o2, e2, fun v q => by rw [d2] at q; cases q⟩
  keep := fun i h h' st k => by
    obtain ⟨hz, hTI, ⟨x, y, hTO⟩, h1, h2⟩ := st
    exact ⟨k z (by simp) _ hz, k TI (by simp) _ hTI, ⟨x, y, k TO (by simp) _ hTO⟩, h1.at fun o q => k i1 (by simp) o q, h2.at fun o q => k i2 (by simp) o q⟩
  item := by
    intro X hP hw hK hc i pins s σ H E I hf st hg
    subst hP hw hK
    obtain ⟨hz, hTI, ⟨x0, y0, hTO⟩, h1, h2⟩ := st
    obtain ⟨xs, ys, x, y, hqx, hqy, hx, hy⟩ := hg
    obtain ⟨its, rv, p, _⟩ := I.list hqx
    obtain ⟨its2, rv2, p2, _⟩ := I.list hqy
    obtain ⟨u, hu, ru⟩ := rv.get hx
    obtain ⟨u2, hu2, ru2⟩ := rv2.get hy
    have hzl : z < s.heap.objs.size := Heap.lt_size hz
    refine wpAny_pyNext_zip_item D hz hTI hTO h1 h2 p.isList p2.isList (x := u) (y := u2) (by simpa using hu) (by simpa using hu2) fun h' z' TO' h1' h2' hT hsz hk => ?_
    refine ⟨_, rfl, wpAny_letOwnedTupleGo_zip (s := { s with heap := h' }) z' fun h'' z'' sb => ?_⟩
    have hT2 : h''.get? s.heap.objs.size = some { cls := .type "tuple", data := .seq #[u, u2] } := (sb.2 _ (Nat.ne_of_gt hzl)).trans hT
    have new : ObjOk X.prog X.w (upd H s.heap.objs.size (.tup [x, y])) h'' s.heap.objs.size (.tup [x, y]) :=
      ⟨by show 2 ≤ sizeLine; decide, [u, u2], .cons ru (.cons ru2 .nil), ⟨_, hT2, rfl, _, rfl⟩⟩
    have I1 : Inv X pins σ (upd H s.heap.objs.size (.tup [x, y])) { s with heap := h'' } :=
      I.turnedNew (t' := s.toks) (ch := [z, TI, TO, i1, i2]) (fun c o hb q => (sb.2 c (fun q' => hb (by simp [q']))).trans (hk c o (fun q' => hb (by simp [q'])) (fun q' => hb (by simp [q'])) (fun q' => hb (by simp [q'])) (fun q' => hb (by simp [q'])) q)) hf (Nat.le_refl _) new
    refine ⟨.ref s.heap.objs.size, _, I1, rfl, ⟨_, x, y, rfl, I.hok.fresh (Nat.le_refl _), rfl, fun l hl => by rw [I.list_inj hl hqx]; exact hx, fun l hl => by rw [I.list_inj hl hqy]; exact hy⟩, ⟨z'', ?_, ⟨u, u2, ?_⟩, ?_, ?_⟩, fun c hcm => ?_⟩
    · exact (sb.2 _ D.TIz).trans (hk _ _ D.TIz D.TITO D.TIi1 D.TIi2 hTI)
    · exact (sb.2 _ D.TOz).trans TO'
    · exact h1'.at fun o q => (sb.2 _ D.i1z).trans q
    · exact h2'.at fun o q => (sb.2 _ D.i2z).trans q
    · have hlt : c < s.heap.objs.size := by
        have e' : c = z ∨ c = TI ∨ c = TO ∨ c = i1 ∨ c = i2 := by simpa using hcm
        rcases e' with q | q | q | q | q
        · rw [q]; exact hzl
        · rw [q]; exact Heap.lt_size hTI
        · rw [q]; exact Heap.lt_size hTO
        · rw [q]; obtain ⟨_, e1, _⟩ := h1; exact Heap.lt_size e1
        · rw [q]; obtain ⟨_, e2, _⟩ := h2; exact Heap.lt_size e2
      rw [upd_ne (Nat.ne_of_lt hlt)]
      exact (hf c hcm).1
  done := by
    intro X hP hw hK hc i pins s σ H E I hf st hg
    subst hP hw hK
    obtain ⟨hz, hTI, ⟨x0, y0, hTO⟩, h1, h2⟩ := st
    obtain ⟨xs, ys, hqx, hqy, hend⟩ := hg
    obtain ⟨its, rv, p, _⟩ := I.list hqx
    obtain ⟨its2, rv2, p2, _⟩ := I.list hqy
    have l1 := rv.length
    have l2 := rv2.length
    have he : its.toArray[i]? = none ∨ its2.toArray[i]? = none := by
      rcases hend with q | q
      · exact .inl (by simp; omega)
      · exact .inr (by simp; omega)
    exact wpAny_pyNext_zip_end (I.ok.hd hc) D hz hTI hTO h1 h2 p.isList p2.isList he fun h' hk => ⟨rfl, I.turnedL (t' := s.toks) (ch := [z, TI, TO, i1, i2]) (fun c o hb q =>
      hk c o (fun q' => hb (by simp [q'])) (fun q' => hb (by simp [q'])) (fun q' => hb (by simp [q'])) (fun q' => hb (by simp [q'])) q) hf⟩
  self := fun A i s Q E st h => wpAny_pyIter_zip st.1 h
def iZip (K : PySem.W.Frag) (ta : TA) : TI := fun σ H R => ta σ H fun vs H1 => ∃ a b xs ys, vs = [.ref a, .ref b] ∧ SqL K H1 a xs ∧ SqL K H1 b ys ∧ R (Itz K a b) H1
theorem pi_zip {X : Cx} {e e2 : Expr} {ta : TA} {p pos tpos : Pos} {elts : List Expr} {kk : Nat} (hg : Gl X "zip") (hm : X.mg "zip" = none) (ha : PA X [e, e2] ta)
    (hs : starEach [e, e2] X.env = (false, eval e X.env) :: starEach [e2] X.env := by rfl) (hpl : (backTo pos (starEach [e2] X.env)).any (·.1) = false := by rfl) :
    PI X (.Tuple elts kk tpos) (.Call (.Name "zip" p) [e, e2] [] pos) (iZip X.K ta) := by
  intro pins s σ H R I h
  refine Call_ (ld_blt I hg hm boot_zip5 (PyProof.Rows.callWith_type1 (thn (ha pos pins s σ H _ I h) fun us s1 ⟨vs, H1, I1, r1, q1⟩ => ?_) hs hpl))
  obtain ⟨a, b, xs, ys, ex, hqx, hqy, q⟩ := q1
  subst ex
  cases r1 with
  | cons r rr =>
    cases rr with
    | cons r' rr =>
      cases rr
      cases r
      cases r'
      obtain ⟨its, rv, p1, _⟩ := I1.list hqx
      obtain ⟨its2, rv2, p2, _⟩ := I1.list hqy
      have la : a < s1.heap.objs.size := p1.lt
      have lb : b < s1.heap.objs.size := p2.lt
      refine call_zip_2 p1.isList p2.isList fun h' hz hTI hTO h1 h2 hsz hk => wpAny_pyIter_zip hz ?_
      have I2 : Inv X pins σ H1 { s1 with heap := h' } := I1.kept (t' := s1.toks) hk
      refine ⟨s1.heap.objs.size + 4, [s1.heap.objs.size + 4, s1.heap.objs.size + 2, s1.heap.objs.size + 3, s1.heap.objs.size, s1.heap.objs.size + 1], _, _, H1, rfl, I2, turn_zip (PySem.W.ktu_apart s1.heap.objs.size a b la lb), ⟨hz, hTI, ⟨_, _, hTO⟩, h1, h2⟩, fun c hcm => ?_, q⟩
      have e' : c = s1.heap.objs.size + 4 ∨ c = s1.heap.objs.size + 2 ∨ c = s1.heap.objs.size + 3 ∨ c = s1.heap.objs.size ∨ c = s1.heap.objs.size + 1 := by simpa using hcm
      have hle : s1.heap.objs.size ≤ c := by
        rcases e' with z | z | z | z | z
        · rw [z]; exact Nat.le_add_right _ _
        · rw [z]; exact Nat.le_add_right _ _
        · rw [z]; exact Nat.le_add_right _ _
        · rw [z]; exact Nat.le_refl _
        · rw [z]; exact Nat.le_add_right _ _
      exact I1.fpOk hle (I1.hok.fresh hle)
end L2

section 
namespace Bits
open PySem PyProof.Rows




/-- x & ((1 << k) - 1) -/
theorem bitAnd_mask {x : Int} (k : Nat) (hx : 0 ≤ x) : Builtin.bitAnd x (2 ^ k - 1) = x % 2 ^ k := by
  obtain ⟨n, rfl⟩ := Int.eq_ofNat_of_zero_le hx
  have hp : 0 < 2 ^ k := Nat.two_pow_pos k
  rw [two_pow_cast]
  have e : ((2 ^ k : Nat) : Int) - 1 = ((2 ^ k - 1 : Nat) : Int) := by
    generalize (2 : Nat) ^ k = m at hp
    omega
  rw [e, bitAnd_pp (by omega) (by omega), Int.toNat_natCast, Int.toNat_natCast, Nat.and_two_pow_sub_one_eq_mod]
  first
    | rfl
    | exact Int.natCast_emod _ _
    | simp


theorem nat_xor_add_and (m : Nat) : ∀ n : Nat, (m ^^^ n) + 2 * (m &&& n) = m + n := by
  induction m using Nat.strongRecOn with
  | _ m ih =>
    intro n
    by_cases h0 : m = 0
    · subst h0
      simp
    · have ih' := ih (m / 2) (by omega) (n / 2)
      rw [← Nat.xor_div_two, ← Nat.and_div_two] at ih'
      have o1 := @Nat.xor_mod_two_eq_one m n
      have a1 := @Nat.and_mod_two_eq_one m n
      omega

theorem bitXor_pp {x y : Int} (hx : 0 ≤ x) (hy : 0 ≤ y) : Builtin.bitXor x y = ((x.toNat ^^^ y.toNat : Nat) : Int) := by
  have e := nat_xor_add_and x.toNat y.toNat
  rw [bitXor_and, bitAnd_pp hx hy]
  omega
theorem bitOr_pp {x y : Int} (hx : 0 ≤ x) (hy : 0 ≤ y) : Builtin.bitOr x y = ((x.toNat ||| y.toNat : Nat) : Int) := by
  have e := nat_or_add_and x.toNat y.toNat
  rw [bitOr_and, bitAnd_pp hx hy]
  omega

end Bits
end 

section 
namespace TL
open PySem PySem.Builtin PySem.Builtin.Str PySem.StrLaws


/-! ### the list functions -/




/-! ### the model's split and partition are these -/




/-! ### computing spl and par -/


/-! ### digits -/

/-! ### words: x.split() -/
end TL
end 

namespace L2
open PySem PySem.Spec PyProof.Rows




section
variable {X : Cx} {pins : List (Addr × Obj)} {σ : St} {H : Hp} {s : Shared} {Q : VK}
end

section
variable {X : Cx}





/-! ### of a text alone -/

/-! ### of a text and a text -/

end

section
variable {X : Cx} {o e : Expr} {to te : TE}

end
end L2

namespace L2
open PySem PySem.Spec PyProof.Rows

section
variable {X : Cx}
end

/-! ### slices of a text -/


end L2

namespace Att
open PySem PySem.W PySem.Calls PyProof.Rows

/-! ### the script -/



/-! ### the attachment: holds_open's last premise (the goal 'hc' behind k_head) from a wpAny of the law's body -/



/-! ### rules over ANY heap (no ledger) from facts about the written part K: the library's own take a ledger (News) for what they write -/
section
variable {prog : Program} {w : World} {A : Around} {E : Value → Shared → Prop} {s : Shared} {K : Frag}





/-! the whole heap as the ledger: makes every rule that writes through a ledger a rule over any heap -/

end
end Att

namespace L2
open PySem PySem.Spec PyProof.Rows



end L2

namespace L2
open PySem PySem.Spec PyProof.Rows


end L2

/- THE LAST THEOREM (shape; LID, My.* are yours):
   My.Adr: a structure of the addresses that your layer names (classes, functions); My.Txt K t: a structure (Prop) of the equations over K;
   My.txt_mk : {K} {implicit addresses ..} (e1 : nsIn K mainGlobals "law" = some (some (.ref f))) (e2 : K.lookup f = some ⟨oc, od, .func (fnOf "law" "law" params body scope dV kV doc pm an cdv ct), sl⟩) (e3 : codeIn K cdv "law" = true) .. : ∃ t, My.Txt K t

set_option maxRecDepth 100000 in
set_option maxHeartbeats 0 in
theorem PySem.Challenge.cw_LID_holds : PySem.Challenge.rw_LID.Holds := by
  w_on; o_law; k_head; (case hw => w_witness2)
  k_fill
  refine L2.walk_of (l := PySem.Challenge.rw_LID) (n := 63) (k := 40) (x := "script") (CX := fun w => ..) (sp := fun _ => My.sp_law) rfl (by decide) rfl ⟨rfl, by decide, by decide⟩ (fun w h Y => PySem.W.kIn_of Y) ?F ?S ?C
  case F =>
    intro w mg fa h KX G hmg
    have T : ∃ t, My.Txt (L2.KOf KX) t := by
      dsimp only [L2.KOf]                          -- K must stand as «<heap const> w.params» for k_is
      refine' My.txt_mk ?e1 ?e2 ?e3 ..
      (case e1 => PySem.W.k_is)                    -- in the order: a name -> its address -> its object -> its parts
      (case e2 => PySem.W.k_is)
      ..
    obtain ⟨t, T⟩ := T
    have e0 := hmg.symm.trans (PySem.W.mg_of KX G T.law)
    cases e0                                       -- fa is the law's own address
    exact ⟨_, fun s u => .of_eq rfl, fun base kb nb => My.law_fn T kb nb⟩     -- if «.of_eq rfl» comes too early: refine' ⟨_, ?b, fun base kb nb => My.law_fn T kb nb⟩; exact fun s u => .of_eq rfl
  case S => exact fun w H a ns hl hO hS => ..
  case C => exact ..
(the tactic k_is has no namespace: write k_is) -/

/-! SHORT WORDS over the layer: a def of the text, its body, what a loop and a test want. -/
namespace L2
open PySem PySem.Spec PyProof.Rows

/-! ### the text by places -/
/-- the j-th statement of a class's body -/
def inClass (s : Stmt) (j : Nat) : Stmt := match s with
  | .ClassDef _ _ _ body _ _ _ _ _ _ _ => body.getD j (.Pass ⟨0, 0, 0, 0⟩)
  | _ => .Pass ⟨0, 0, 0, 0⟩
def defArgs (s : Stmt) : Arguments := match s with
  | .FunctionDef _ a _ _ _ _ _ _ _ _ => a
  | _ => { posonlyargs := [], args := [], vararg := none, kwonlyargs := [], kw_defaults := [], kwarg := none, defaults := [] }
def defBody (s : Stmt) : List Stmt := match s with
  | .FunctionDef _ _ b _ _ _ _ _ _ _ => b
  | _ => []
def defScope (s : Stmt) : Scope := match s with
  | .FunctionDef _ _ _ _ _ _ sc _ _ _ => sc
  | _ => { kind := .function, names := [], isGenerator := false, isCoroutine := false }

/-! ### no exception leaves a def -/
abbrev CX0 : CXT := fun _ _ _ _ _ _ => False
abbrev E0 : XK := fun _ _ _ => False
theorem pass0 {X : Cx} : Passes CX0 X E0 := fun _ _ _ _ _ _ _ h => h.elim

/-! ### a def (or method) of the text as it stands behind the top -/
structure Fun (K : PySem.W.Frag) (x qual : Str) (st : Stmt) (f : Addr) (fd : FuncData) : Prop where
  ex : ∃ (oc : Value) (od : Option Addr) (kV doc pm : Value) (an : Option Addr) (cdv ct : Value) (osl : Array (Option Value)),
    fd = PySem.W.fnOf x qual (defArgs st) (defBody st) (defScope st) .none kV doc pm an cdv ct ∧ K.lookup f = some ⟨oc, od, .func fd, osl⟩ ∧ PySem.W.codeIn K cdv qual = true
  kp : PySem.W.keepIn K (.ref f) = true
section
variable {P : Program} {w : World} {K : PySem.W.Frag} {mg : Str → Option Value} {base : Heap}
/-- THE RULE for a def: its body as a term of rules, and the reading of that term -/
theorem Fun.ok {x qual : Str} {st : Stmt} {f : Addr} {fd : FuncData} {N ps : List Str} {k : Nat} {sp : Sp} (F : Fun K x qual st f fd) (S : FnScope N ps (defScope st)) (len : ∀ vs H Q E, sp vs H Q E → vs.length = ps.length)
    (hbody : ∀ (cdv : Value) (A : Around) (outer : List Env) (s : Shared) (H : Hp) (vs : List V) (Q : VK) (E : XK), Room k (A.deeper (envOfC qual (defScope st) s.heap.objs.size f cdv)) → sp vs H Q E →
      ∃ t, PSs (cxOf CX0 P w K mg base N qual (defScope st) f cdv A outer s H E).nox (defBody st) t ∧ t { nx := fun _ H' => Q .non H', rt := Q } (start N vs) H) : FnOk P w K mg base CX0 (k + 1) f fd ps sp := by
  obtain ⟨oc, od, kV, doc, pm, an, cdv, ct, osl, rfl, lk, hcd⟩ := F.ex
  refine fn_of lk hcd S len fun A outer s H vs Q E hr hsp => ?_
  obtain ⟨t, h, q⟩ := hbody cdv A outer s H vs Q E hr hsp
  exact ⟨t, h.nox, q⟩
/-- how its arguments bind (no defaults): h is «fun _ _ _ _ _ _ us hl => match us, hl with | [_, _], _ => rfl», one _ a parameter -/
theorem Fun.binds {x qual : Str} {st : Stmt} {f : Addr} {fd : FuncData} {ps : List Str} (F : Fun K x qual st f fd)
    (h : ∀ (kV doc pm : Value) (an : Option Addr) (cdv ct : Value) (us : List Value), us.length = ps.length → bindArgs (PySem.W.fnOf x qual (defArgs st) (defBody st) (defScope st) .none kV doc pm an cdv ct) ⟨us, []⟩ = pure (ps.zip us)) : Binds K fd ps [] := by
  obtain ⟨oc, od, kV, doc, pm, an, cdv, ct, osl, rfl, lk, hcd⟩ := F.ex
  exact .all (h kV doc pm an cdv ct)
theorem fun_mk {x qual : Str} {st : Stmt} {f : Addr} {oc : Value} {od an : Option Addr} {osl : Array (Option Value)} {kV doc pm cdv ct : Value} (l : K.lookup f = some ⟨oc, od, .func (PySem.W.fnOf x qual (defArgs st) (defBody st) (defScope st) .none kV doc pm an cdv ct), osl⟩)
    (c : PySem.W.codeIn K cdv qual = true) (k : PySem.W.keepIn K (.ref f) = true) : Fun K x qual st f (PySem.W.fnOf x qual (defArgs st) (defBody st) (defScope st) .none kV doc pm an cdv ct) := ⟨⟨oc, od, kV, doc, pm, an, cdv, ct, osl, rfl, l, c⟩, k⟩
end

/-! ### expressions in short: the name that stands in the i-th slot -/
section
variable {X : Cx}
theorem pv (i : Nat) {x : Str} {pos : Pos} (hN : X.N[i]? = some x := by rfl) (hv : Vis X.env.scope x := by first | exact Or.inl rfl | exact Or.inr (Or.inl rfl) | exact Or.inr (Or.inr rfl)) (hd : (x == ("__debug__" : Str)) = false := by decide)
    (hcd : (x == ("__classdict__" : Str)) = false := by decide) : PE X (.Name x pos) (tVar i) := pe_var hN hv hd hcd
end

/-! ### tests -/
theorem iteF {A B : Prop} (h : B) : if false = true then A else B := by
  rw [if_neg Bool.false_ne_true]
  exact h
theorem iteT {A B : Prop} (h : A) : if true = true then A else B := by
  rw [if_pos rfl]
  exact h
theorem ite2 {c A B : Prop} [Decidable c] (h1 : c → A) (h2 : ¬ c → B) : if c then A else B := by
  by_cases h : c
  · rw [if_pos h]
    exact h1 h
  · rw [if_neg h]
    exact h2 h

/-! ### heaps -/
/-- all that was tracked is as it was -/
def Same (H H' : Hp) : Prop := ∀ b o, H b = some o → H' b = some o
theorem Same.refl (H : Hp) : Same H H := fun _ _ h => h
theorem Same.trans {H H1 H2 : Hp} (a : Same H H1) (b : Same H1 H2) : Same H H2 := fun c o h => b c o (a c o h)
theorem Same.free {H H' : Hp} (e : Same H H') {l : Addr} (h : H' l = Option.none) : H l = Option.none := by
  cases q : H l with
  | none => rfl
  | some o =>
    rw [e l o q] at h
    cases h
theorem Same.seq {K : PySem.W.Frag} {H H' : Hp} {a : Addr} {xs : List V} (e : Same H H') (h : SqL K H a xs) : SqL K H' a xs := by
  rcases h with (h | ⟨o, h⟩) | h
  · exact .inl (.inl (e _ _ h))
  · exact .inl (.inr ⟨o, e _ _ h⟩)
  · exact .inr h

/-! ### a dict's pairs: keys that differ -/
section
variable {κ : Type} [DecidableEq κ]
end
/-! ### lists -/
theorem at_of {xs : List V} {z : Int} {j : Nat} {v : V} (e : z = (j : Int)) (h : xs[j]? = some v) : atI xs z = some v := by
  rw [e]
  exact atI_nat h
theorem nd_ix {α : Type} {l : List α} (hN : l.Nodup) {i j : Nat} {x : α} (a : l[i]? = some x) (b : l[j]? = some x) : i = j := by
  obtain ⟨h1, e1⟩ := List.getElem?_eq_some_iff.mp a
  obtain ⟨h2, e2⟩ := List.getElem?_eq_some_iff.mp b
  exact (List.getElem_inj hN).mp (e1.trans e2.symm)
end L2

section
set_option Elab.async false
set_option linter.all false
set_option maxRecDepth 100000
set_option maxHeartbeats 2000000
namespace L2
open PySem PySem.Spec PyProof.Rows
open PySem.W (WData Codec OpenSpec Well WellAll ReadsW ReadsAllW)
/-! ### an answer as data -/
mutual
/-- x stands for the datum d, lists and tuples all the way -/
inductive Dw (K : PySem.W.Frag) (H : Hp) : V → WData → Prop
  | non : Dw K H .non .none
  | bl (b : Bool) : Dw K H (.bl b) (.bool b)
  | int (i : Int) : Dw K H (.int i) (.int i)
  | str (x : Str) : Dw K H (.str x) (.str x)
  | byt (b : Array UInt8) : Dw K H (.byt b) (.bytes b.toList)
  | lst {a : Addr} {xs : List V} {ds : List WData} : SqL K H a xs → DwAll K H xs ds → Dw K H (.ref a) (.list ds)
  | tup {a : Addr} {xs : List V} {ds : List WData} : SqT K H a xs → DwAll K H xs ds → Dw K H (.ref a) (.tuple ds)
inductive DwAll (K : PySem.W.Frag) (H : Hp) : List V → List WData → Prop
  | nil : DwAll K H [] []
  | cons {v : V} {vs : List V} {d : WData} {ds : List WData} : Dw K H v d → DwAll K H vs ds → DwAll K H (v :: vs) (d :: ds)
end
theorem dw_ints {K : PySem.W.Frag} {H : Hp} : ∀ ns : List Int, DwAll K H (ns.map V.int) (ns.map WData.int)
  | [] => .nil
  | n :: r => .cons (.int n) (dw_ints r)
theorem ints_dw {K : PySem.W.Frag} {H : Hp} : ∀ (ns : List Int) (xs : List V), DwAll K H xs (ns.map WData.int) → xs = ns.map V.int
  | [], xs, h => by
    cases h
    rfl
  | n :: r, xs, h => by
    cases h with
    | cons h1 h2 =>
      cases h1
      rw [ints_dw r _ h2] <;> rfl
section
variable {P : Program} {w : World} {K : PySem.W.Frag} {H : Hp} {h : Heap} {R : PySem.W.WRecords} {cl : Str → Option Addr}
theorem sqL_at {a : Addr} {xs : List V} (hok : HOk P w H h) (KX : K.In h) (q : SqL K H a xs) : ∃ (its : List Value) (o : Obj) (n : Nat), Vals xs its ∧ h.get? a = some o ∧ o.cls = .type "list" ∧ o.data = .seq its.toArray n := by
  rcases q with q | ⟨o, its, n, e, hc, _, hd, _, hv⟩
  · obtain ⟨_, its, n, hv, e⟩ := (show ObjOk P w H h a (.lst xs) from q.ok hok)
    exact ⟨its, _, n, hv, e, rfl, rfl⟩
  · exact ⟨its.toList, o, n, hv, KX _ _ e, hc, by simp [hd]⟩
theorem sqT_at {a : Addr} {xs : List V} (hok : HOk P w H h) (KX : K.In h) (q : SqT K H a xs) : ∃ (its : List Value) (o : Obj) (n : Nat), Vals xs its ∧ h.get? a = some o ∧ o.cls = .type "tuple" ∧ o.data = .seq its.toArray n := by
  rcases q with q | ⟨o, its, n, e, hc, hd, _, hv⟩
  · obtain ⟨_, its, hv, o, e, hc, n, hd⟩ := (show ObjOk P w H h a (.tup xs) from q.ok hok)
    exact ⟨its, o, n, hv, e, hc, hd⟩
  · exact ⟨its.toList, o, n, hv, KX _ _ e, hc, by simp [hd]⟩
mutual
theorem Dw.reads (hok : HOk P w H h) (KX : K.In h) : ∀ (d : WData) (v : V) (u : Value), Dw K H v d → RelV v u → ∃ as, ReadsW R cl h u d as
  | .none, _, _, x, r => by
    cases x
    cases r
    exact ⟨_, ReadsW.none⟩
  | .bool b, _, _, x, r => by
    cases x
    cases r
    exact ⟨_, ReadsW.bool b⟩
  | .int i, _, _, x, r => by
    cases x
    obtain ⟨t, rfl⟩ := r
    exact ⟨_, ReadsW.int i t⟩
  | .str s, _, _, x, r => by
    cases x
    obtain ⟨t, rfl⟩ := r
    exact ⟨_, ReadsW.str s t⟩
  | .bytes b, _, _, x, r => by
    cases x
    obtain ⟨t, rfl⟩ := r
    exact ⟨_, ReadsW.bytes _ t⟩
  | .list ds, _, _, x, r => by
    cases x with
    | lst hs ha =>
      cases r
      obtain ⟨its, o, n, rv, ho, hc, hd⟩ := sqL_at hok KX hs
      obtain ⟨as, hr⟩ := Dw.readsAll hok KX ds _ its ha rv
      exact ⟨_, ReadsW.list ho hc hd hr⟩
  | .tuple ds, _, _, x, r => by
    cases x with
    | tup hs ha =>
      cases r
      obtain ⟨its, o, n, rv, ho, hc, hd⟩ := sqT_at hok KX hs
      obtain ⟨as, hr⟩ := Dw.readsAll hok KX ds _ its ha rv
      exact ⟨_, ReadsW.tuple ho hc hd hr⟩
  | .float _, _, _, x, _ => by cases x
  | .dict _, _, _, x, _ => by cases x
  | .bytearray _, _, _, x, _ => by cases x
  | .set _, _, _, x, _ => by cases x
  | .frozenset _, _, _, x, _ => by cases x
  | .obj _ _, _, _, x, _ => by cases x
theorem Dw.readsAll (hok : HOk P w H h) (KX : K.In h) : ∀ (ds : List WData) (vs : List V) (us : List Value), DwAll K H vs ds → Vals vs us → ∃ as, ReadsAllW R cl h us ds as
  | [], _, _, x, r => by
    cases x
    cases r
    exact ⟨_, ReadsAllW.nil⟩
  | d :: ds, _, _, x, r => by
    cases x with
    | cons h1 h2 =>
      cases r with
      | cons r1 r2 =>
        obtain ⟨as, q1⟩ := Dw.reads hok KX d _ _ h1 r1
        obtain ⟨bs, q2⟩ := Dw.readsAll hok KX ds _ _ h2 r2
        exact ⟨_, ReadsAllW.cons q1 q2⟩
end
end
/-! ### the arguments -/
mutual
/-- data that a codec tells -/
def plW : WData → Bool
  | .none => true
  | .bool _ => true
  | .int _ => true
  | .str _ => true
  | .bytes _ => true
  | .list xs => plWs xs
  | .tuple xs => plWs xs
  | _ => false
def plWs : List WData → Bool
  | [] => true
  | x :: r => plW x && plWs r
end
theorem plWs_map {α : Type} {f : α → WData} (h : ∀ a, plW (f a) = true) : ∀ l : List α, plWs (l.map f) = true
  | [] => rfl
  | x :: r => by
    show (plW (f x) && plWs (r.map f)) = true
    rw [h x, plWs_map h r] <;> rfl
theorem pl_enc : ∀ (c : Codec) (a : c.denote), plW (c.enc a) = true
  | .unit, _ => rfl
  | .bool, _ => rfl
  | .int _ _, _ => rfl
  | .nat _ _, _ => rfl
  | .u8, _ => rfl
  | .bytes _ _, _ => rfl
  | .text _ _ _ _, _ => rfl
  | .list _ _ c, a => plWs_map (fun x => pl_enc c x) a
  | .pair c d, a => by
    show (plW (c.enc a.1) && (plW (d.enc a.2) && true)) = true
    rw [pl_enc c a.1, pl_enc d a.2] <;> rfl
  | .triple c d e, a => by
    show (plW (c.enc a.1) && (plW (d.enc a.2.1) && (plW (e.enc a.2.2) && true))) = true
    rw [pl_enc c a.1, pl_enc d a.2.1, pl_enc e a.2.2] <;> rfl
  | .option c, none => rfl
  | .option c, some x => pl_enc c x
theorem pl_encAll : ∀ (cs : List Codec) (a : Codec.denoteAll cs), plWs (Codec.encAll cs a) = true
  | [], _ => rfl
  | c :: cs, a => by
    show (plW (c.enc a.1) && plWs (Codec.encAll cs a.2)) = true
    rw [pl_enc c a.1, pl_encAll cs a.2] <;> rfl
theorem weight_mem : ∀ {xs : List WData} {d : WData}, d ∈ xs → d.weight ≤ WData.weightAll xs
  | [], d, h => absurd h (by simp)
  | x :: r, d, h => by
    show d.weight ≤ x.weight + 1 + WData.weightAll r
    rcases List.mem_cons.mp h with e | m
    · rw [e]
      omega
    · have z := weight_mem m
      omega
def toV : Value → V
  | .none => .non
  | .bool b => .bl b
  | .int i _ => .int i
  | .str x _ => .str x
  | .bytes b _ => .byt b
  | .ref a => .ref a
  | _ => .non
/-- a value of the arguments, its objects among A -/
def OkU (A : List Addr) : Value → Prop
  | .none => True
  | .bool _ => True
  | .int _ _ => True
  | .str _ _ => True
  | .bytes _ _ => True
  | .ref a => a ∈ A
  | _ => False
theorem OkU.mono {A B : List Addr} (h : ∀ a ∈ A, a ∈ B) : ∀ {u : Value}, OkU A u → OkU B u := fun {u} x => by
  cases u with
  | ref a => exact h a x
  | none => trivial
  | bool b => trivial
  | int i t => trivial
  | str s t => trivial
  | bytes b t => trivial
  | _ => exact False.elim x
theorem relV_toV {A : List Addr} {u : Value} (x : OkU A u) : RelV (toV u) u := by
  cases u with
  | ref a => rfl
  | none => rfl
  | bool b => rfl
  | int i t => exact ⟨t, rfl⟩
  | str s t => exact ⟨t, rfl⟩
  | bytes b t => exact ⟨t, rfl⟩
  | _ => exact False.elim x
theorem vals_toV {A : List Addr} : ∀ {vs : List Value}, (∀ u ∈ vs, OkU A u) → Vals (vs.map toV) vs
  | [], _ => .nil
  | u :: r, h => .cons (relV_toV (h u (List.mem_cons_self ..))) (vals_toV fun x hx => h x (List.mem_cons_of_mem _ hx))
/-- an object of the arguments -/
def ArgOb (h : Heap) (A : List Addr) (a : Addr) : Prop := ∃ vs : List Value, vs.length ≤ sizeLine ∧ (∀ u ∈ vs, OkU A u) ∧
  (h.get? a = some { cls := .type "list", data := .seq vs.toArray } ∨ h.get? a = some { cls := .type "tuple", data := .seq vs.toArray })
theorem ArgOb.mono {h : Heap} {A B : List Addr} {a : Addr} (k : ∀ a ∈ A, a ∈ B) (x : ArgOb h A a) : ArgOb h B a := by
  obtain ⟨vs, h1, h2, h3⟩ := x
  exact ⟨vs, h1, fun u hu => (h2 u hu).mono k, h3⟩
theorem wellAll_len {P : Params} {h : Heap} : ∀ {vs : List Value} {ds : List WData}, WellAll P h vs ds → vs.length = ds.length
  | _, _, .nil => rfl
  | _, _, .cons _ b => by
    show _ + 1 = _ + 1
    rw [wellAll_len b]
theorem well_list {P : Params} {h : Heap} {v : Value} {ds : List WData} (x : Well P h v (.list ds)) : ∃ (a : Addr) (vs : List Value), v = .ref a ∧ h.get? a = some { cls := .type "list", data := .seq vs.toArray } ∧ WellAll P h vs ds := by
  cases x with
  | list ho hall => exact ⟨_, _, rfl, ho, hall⟩
theorem well_tuple {P : Params} {h : Heap} {v : Value} {ds : List WData} (x : Well P h v (.tuple ds)) : ∃ (a : Addr) (vs : List Value), v = .ref a ∧ h.get? a = some { cls := .type "tuple", data := .seq vs.toArray } ∧ WellAll P h vs ds := by
  cases x with
  | tuple ho hall => exact ⟨_, _, rfl, ho, hall⟩
theorem well_cons {P : Params} {h : Heap} {us : List Value} {d : WData} {ds : List WData} (x : WellAll P h us (d :: ds)) : ∃ (v : Value) (vs : List Value), us = v :: vs ∧ Well P h v d ∧ WellAll P h vs ds := by
  cases x with
  | cons a b => exact ⟨_, _, rfl, a, b⟩
theorem line_of {n : Nat} (h : n ≤ 1048576) : n ≤ sizeLine := Nat.le_trans h (by decide)
section
variable {P : Params} {h : Heap}
mutual
theorem area_one : ∀ (d : WData) (v : Value), Well P h v d → plW d = true → d.weight ≤ 1048576 → ∃ A : List Addr, OkU A v ∧ ∀ a ∈ A, ArgOb h A a
  | .none, _, x, _, _ => by
    cases x
    exact ⟨[], trivial, fun a m => absurd m (by simp)⟩
  | .bool b, _, x, _, _ => by
    cases x
    exact ⟨[], trivial, fun a m => absurd m (by simp)⟩
  | .int i, _, x, _, _ => by
    cases x
    exact ⟨[], trivial, fun a m => absurd m (by simp)⟩
  | .str s, _, x, _, _ => by
    cases x
    exact ⟨[], trivial, fun a m => absurd m (by simp)⟩
  | .bytes b, _, x, _, _ => by
    cases x
    exact ⟨[], trivial, fun a m => absurd m (by simp)⟩
  | .list ds, _, x, p, z => by
    obtain ⟨a, vs, rfl, ho, hall⟩ := well_list x
    have z2 : WData.weightAll ds ≤ 1048576 := z
    obtain ⟨A, h1, h2⟩ := area_all ds _ hall p fun d hd => Nat.le_trans (weight_mem hd) z2
    have k : ∀ b ∈ A, b ∈ a :: A := fun b hb => List.mem_cons_of_mem _ hb
    refine ⟨a :: A, List.mem_cons_self .., fun b hb => ?_⟩
    rcases List.mem_cons.mp hb with e | m
    · rw [e]
      exact ⟨vs, line_of (by rw [wellAll_len hall]; exact Nat.le_trans (PySem.W.length_le_weightAllW ds) z2), fun u hu => (h1 u hu).mono k, .inl ho⟩
    · exact (h2 b m).mono k
  | .tuple ds, _, x, p, z => by
    obtain ⟨a, vs, rfl, ho, hall⟩ := well_tuple x
    have z2 : WData.weightAll ds ≤ 1048576 := z
    obtain ⟨A, h1, h2⟩ := area_all ds _ hall p fun d hd => Nat.le_trans (weight_mem hd) z2
    have k : ∀ b ∈ A, b ∈ a :: A := fun b hb => List.mem_cons_of_mem _ hb
    refine ⟨a :: A, List.mem_cons_self .., fun b hb => ?_⟩
    rcases List.mem_cons.mp hb with e | m
    · rw [e]
      exact ⟨vs, line_of (by rw [wellAll_len hall]; exact Nat.le_trans (PySem.W.length_le_weightAllW ds) z2), fun u hu => (h1 u hu).mono k, .inr ho⟩
    · exact (h2 b m).mono k
  | .float _, _, _, p, _ => Bool.noConfusion (show false = true from p)
  | .dict _, _, _, p, _ => Bool.noConfusion (show false = true from p)
  | .bytearray _, _, _, p, _ => Bool.noConfusion (show false = true from p)
  | .set _, _, _, p, _ => Bool.noConfusion (show false = true from p)
  | .frozenset _, _, _, p, _ => Bool.noConfusion (show false = true from p)
  | .obj _ _, _, _, p, _ => Bool.noConfusion (show false = true from p)
theorem area_all : ∀ (ds : List WData) (vs : List Value), WellAll P h vs ds → plWs ds = true → (∀ d ∈ ds, d.weight ≤ 1048576) → ∃ A : List Addr, (∀ u ∈ vs, OkU A u) ∧ ∀ a ∈ A, ArgOb h A a
  | [], _, x, _, _ => by
    cases x
    exact ⟨[], fun u m => absurd m (by simp), fun a m => absurd m (by simp)⟩
  | d :: ds, _, x, p, z => by
    obtain ⟨v, vs, rfl, x1, x2⟩ := well_cons x
    have q : plW d = true ∧ plWs ds = true := Bool.and_eq_true_iff.mp p
    obtain ⟨A, a1, a2⟩ := area_one d v x1 q.1 (z d (List.mem_cons_self ..))
    obtain ⟨B, b1, b2⟩ := area_all ds vs x2 q.2 fun e he => z e (List.mem_cons_of_mem _ he)
    have kA : ∀ b ∈ A, b ∈ A ++ B := fun b hb => List.mem_append.mpr (.inl hb)
    have kB : ∀ b ∈ B, b ∈ A ++ B := fun b hb => List.mem_append.mpr (.inr hb)
    refine ⟨A ++ B, fun u hu => ?_, fun b hb => ?_⟩
    · rcases List.mem_cons.mp hu with e | m
      · rw [e]
        exact a1.mono kA
      · exact (b1 u m).mono kB
    · rcases List.mem_append.mp hb with m | m
      · exact (a2 b m).mono kA
      · exact (b2 b m).mono kB
end
end
/-- what is tracked of an argument's object -/
def hoOf (o : Obj) : Option HO := match o.data with
  | .seq vs _ => if (o.cls == Value.type "list") = true then some (.frz o (.lst (vs.toList.map toV))) else some (.frz o (.tup (vs.toList.map toV)))
  | _ => none
def argH (K : PySem.W.Frag) (h : Heap) (A : List Addr) : Hp := fun b => if b ∈ A then (if (K.lookup b).isNone = true then (h.get? b).bind hoOf else none) else none
/-- nothing is tracked but what is known to the object -/
def OnlyF (H : Hp) : Prop := ∀ b, H b = none ∨ ∃ o u, H b = some (.frz o u)
theorem hoOf_lst (vs : List Value) : hoOf { cls := .type "list", data := .seq vs.toArray } = some (.frz { cls := .type "list", data := .seq vs.toArray } (.lst (vs.map toV))) := by
  show (if (Value.type "list" == Value.type "list") = true then some (HO.frz { cls := .type "list", data := .seq vs.toArray } (.lst (vs.toArray.toList.map toV))) else some (HO.frz { cls := .type "list", data := .seq vs.toArray } (.tup (vs.toArray.toList.map toV)))) = _
  rw [if_pos (beq_self_eq_true _)]
theorem hoOf_tup (vs : List Value) : hoOf { cls := .type "tuple", data := .seq vs.toArray } = some (.frz { cls := .type "tuple", data := .seq vs.toArray } (.tup (vs.map toV))) := by
  show (if (Value.type "tuple" == Value.type "list") = true then some (HO.frz { cls := .type "tuple", data := .seq vs.toArray } (.lst (vs.toArray.toList.map toV))) else some (HO.frz { cls := .type "tuple", data := .seq vs.toArray } (.tup (vs.toArray.toList.map toV)))) = _
  rw [if_neg (by decide)]
section
variable {P : Program} {w : World} {K : PySem.W.Frag} {h : Heap} {A : List Addr}
theorem argH_at {b : Addr} {o : Obj} (hb : b ∈ A) (hk : K.lookup b = none) (e : h.get? b = some o) : argH K h A b = hoOf o := by
  unfold argH
  rw [if_pos hb, hk, if_pos (show (none : Option Obj).isNone = true from rfl), e] <;> rfl
theorem of_argH {b : Addr} {u : HO} (q : argH K h A b = some u) : b ∈ A ∧ K.lookup b = none := by
  unfold argH at q
  by_cases hb : b ∈ A
  · rw [if_pos hb] at q
    cases hk : K.lookup b with
    | none => exact ⟨hb, rfl⟩
    | some o =>
      rw [hk, if_neg (by simp)] at q
      cases q
  · rw [if_neg hb] at q
    cases q
/-- what stands tracked -/
theorem argH_is (ar : ∀ a ∈ A, ArgOb h A a) {b : Addr} {u : HO} (q : argH K h A b = some u) : K.lookup b = none ∧ ∃ vs : List Value, vs.length ≤ sizeLine ∧ (∀ u ∈ vs, OkU A u) ∧
    ((h.get? b = some { cls := .type "list", data := .seq vs.toArray } ∧ u = .frz { cls := .type "list", data := .seq vs.toArray } (.lst (vs.map toV))) ∨
     (h.get? b = some { cls := .type "tuple", data := .seq vs.toArray } ∧ u = .frz { cls := .type "tuple", data := .seq vs.toArray } (.tup (vs.map toV)))) := by
  obtain ⟨hb, hk⟩ := of_argH q
  obtain ⟨vs, h1, h2, h3⟩ := ar b hb
  refine ⟨hk, vs, h1, h2, ?_⟩
  rcases h3 with e | e
  · rw [argH_at hb hk e, hoOf_lst] at q
    exact .inl ⟨e, (Option.some.inj q).symm⟩
  · rw [argH_at hb hk e, hoOf_tup] at q
    exact .inr ⟨e, (Option.some.inj q).symm⟩
theorem argH_only (ar : ∀ a ∈ A, ArgOb h A a) : OnlyF (argH K h A) := fun b => by
  cases q : argH K h A b with
  | none => exact .inl rfl
  | some u =>
    obtain ⟨_, vs, _, _, ⟨_, e⟩ | ⟨_, e⟩⟩ := argH_is ar q
    · exact .inr ⟨_, _, by rw [e]⟩
    · exact .inr ⟨_, _, by rw [e]⟩
theorem argH_ok (ar : ∀ a ∈ A, ArgOb h A a) : HOk P w (argH K h A) h := fun b u q => by
  obtain ⟨_, vs, h1, h2, ⟨e, rfl⟩ | ⟨e, rfl⟩⟩ := argH_is ar q
  · exact ⟨e, by rw [List.length_map]; exact h1, vs, _, vals_toV h2, e⟩
  · exact ⟨e, by rw [List.length_map]; exact h1, vs, vals_toV h2, _, e, rfl, _, rfl⟩
theorem seq_inj {c c' : Value} {vs us : List Value} (e : (some { cls := c, data := .seq vs.toArray } : Option Obj) = some { cls := c', data := .seq us.toArray }) : c = c' ∧ vs = us := by
  have e1 := Option.some.inj e
  have e2 : c = c' := congrArg Obj.cls e1
  have e3 : Data.seq vs.toArray = Data.seq us.toArray := congrArg Obj.data e1
  injection e3 with e4
  refine ⟨e2, ?_⟩
  have e5 := congrArg Array.toList e4
  simpa using e5
/-- a list argument -/
theorem argL (KX : K.In h) (ar : ∀ a ∈ A, ArgOb h A a) {a : Addr} {vs : List Value} (ha : a ∈ A) (e : h.get? a = some { cls := .type "list", data := .seq vs.toArray }) : (∀ u ∈ vs, OkU A u) ∧ SqL K (argH K h A) a (vs.map toV) := by
  obtain ⟨us, h1, h2, h3⟩ := ar a ha
  have hu : us = vs := by
    rcases h3 with q | q
    · rw [e] at q
      exact (seq_inj q).2.symm
    · rw [e] at q
      exact absurd (Value.type.inj (seq_inj q).1) (by decide)
  subst hu
  refine ⟨h2, ?_⟩
  cases hk : K.lookup a with
  | none => exact .inl (.inr ⟨_, by rw [argH_at ha hk e, hoOf_lst]⟩)
  | some o =>
    have e2 := KX a o hk
    rw [e] at e2
    obtain rfl := Option.some.inj e2
    exact .inr ⟨_, us.toArray, _, hk, rfl, rfl, rfl, by rw [List.size_toArray]; exact h1, by simpa using vals_toV h2⟩
theorem argT (KX : K.In h) (ar : ∀ a ∈ A, ArgOb h A a) {a : Addr} {vs : List Value} (ha : a ∈ A) (e : h.get? a = some { cls := .type "tuple", data := .seq vs.toArray }) : (∀ u ∈ vs, OkU A u) ∧ SqT K (argH K h A) a (vs.map toV) := by
  obtain ⟨us, h1, h2, h3⟩ := ar a ha
  have hu : us = vs := by
    rcases h3 with q | q
    · rw [e] at q
      exact absurd (Value.type.inj (seq_inj q).1) (by decide)
    · rw [e] at q
      exact (seq_inj q).2.symm
  subst hu
  refine ⟨h2, ?_⟩
  cases hk : K.lookup a with
  | none => exact .inl (.inr ⟨_, by rw [argH_at ha hk e, hoOf_tup]⟩)
  | some o =>
    have e2 := KX a o hk
    rw [e] at e2
    obtain rfl := Option.some.inj e2
    exact .inr ⟨_, us.toArray, _, hk, rfl, rfl, by rw [List.size_toArray]; exact h1, by simpa using vals_toV h2⟩
mutual
theorem dw_one {Pm : Params} (KX : K.In h) (ar : ∀ a ∈ A, ArgOb h A a) : ∀ (d : WData) (v : Value), Well Pm h v d → plW d = true → OkU A v → Dw K (argH K h A) (toV v) d
  | .none, _, x, _, _ => by
    cases x
    exact .non
  | .bool b, _, x, _, _ => by
    cases x
    exact .bl b
  | .int i, _, x, _, _ => by
    cases x
    exact .int i
  | .str s, _, x, _, _ => by
    cases x
    exact .str s
  | .bytes b, _, x, _, _ => by
    cases x
    have z := Dw.byt (K := K) (H := argH K h A) b.toArray
    exact z
  | .list ds, _, x, p, hu => by
    obtain ⟨a, vs, rfl, ho, hall⟩ := well_list x
    obtain ⟨h2, hs⟩ := argL KX ar hu ho
    exact .lst hs (dw_all KX ar ds _ hall p h2)
  | .tuple ds, _, x, p, hu => by
    obtain ⟨a, vs, rfl, ho, hall⟩ := well_tuple x
    obtain ⟨h2, hs⟩ := argT KX ar hu ho
    exact .tup hs (dw_all KX ar ds _ hall p h2)
  | .float _, _, _, p, _ => Bool.noConfusion (show false = true from p)
  | .dict _, _, _, p, _ => Bool.noConfusion (show false = true from p)
  | .bytearray _, _, _, p, _ => Bool.noConfusion (show false = true from p)
  | .set _, _, _, p, _ => Bool.noConfusion (show false = true from p)
  | .frozenset _, _, _, p, _ => Bool.noConfusion (show false = true from p)
  | .obj _ _, _, _, p, _ => Bool.noConfusion (show false = true from p)
theorem dw_all {Pm : Params} (KX : K.In h) (ar : ∀ a ∈ A, ArgOb h A a) : ∀ (ds : List WData) (vs : List Value), WellAll Pm h vs ds → plWs ds = true → (∀ u ∈ vs, OkU A u) → DwAll K (argH K h A) (vs.map toV) ds
  | [], _, x, _, _ => by
    cases x
    exact .nil
  | d :: ds, _, x, p, hu => by
    obtain ⟨v, vs, rfl, x1, x2⟩ := well_cons x
    have q : plW d = true ∧ plWs ds = true := Bool.and_eq_true_iff.mp p
    exact .cons (dw_one KX ar d v x1 q.1 (hu _ (List.mem_cons_self ..))) (dw_all KX ar ds vs x2 q.2 fun u m => hu u (List.mem_cons_of_mem _ m))
end
end
/-! ### the call -/
theorem spec_call {P : Program} {w : World} {K : PySem.W.Frag} {mg mb : Str → Option Value} {CX : CXT} {k : Nat} {fa : Addr} {fd : FuncData} {ps : List Str} {sp : Sp} {s₁ : Shared} {vals : List Value} {ds : List WData} {R : PySem.W.WRecords} {cl : Str → Option Addr} {d0 : WData}
    (KX : K.In s₁.heap) (hns : s₁.heap.Ns mainGlobals mg) (hb : s₁.heap.Ns builtinsNs mb) (hbb : ∀ x : Str, x ≠ "__name__" → mb x = bootBuiltins x) (hlim : s₁.heap.NoLimit) (hg : s₁.gens = #[])
    (hwl : WellAll w.params s₁.heap vals ds) (hpl : plWs ds = true) (hwt : ∀ d ∈ ds, d.weight ≤ 1048576) (hr : Room k callerA)
    (F : ∀ base : Heap, K.In base → base.Ns mainGlobals mg → FnOk P w K mg base CX k fa fd ps sp) (hbind : ∀ (s : Shared) (us : List Value), us.length = ps.length → BindsTo s fd ⟨us, []⟩ (ps.zip us)) (hlen : ds.length = ps.length)
    (hsp : ∀ (H : Hp) (xs : List V), OnlyF H → DwAll K H xs ds → sp xs H (fun v H' => Dw K H' v d0) fun _ _ _ => False)
    (hCX : ∀ H e s', CX [] H s₁ (fun _ _ _ => False) e s' → False) :
    codeAny (model P w) callerA (.call (.ref fa) ⟨vals, []⟩) (fun r s' => ∃ u as, r = .ok (.ret u) ∧ ReadsW R cl s'.heap u d0 as ∧ OldK s₁.heap s'.heap ∧ s'.os = s₁.os ∧ AllBare s'.gens) s₁ := by
  obtain ⟨A, ho, ar⟩ := area_all ds vals hwl hpl hwt
  have hO : OnlyF (argH K s₁.heap A) := argH_only ar
  have hok : HOk P w (argH K s₁.heap A) s₁.heap := argH_ok ar
  have hS := dw_all KX ar ds vals hwl hpl ho
  have hV := vals_toV ho
  have hK : ∀ b u, argH K s₁.heap A b = some u → K.lookup b = none := fun b u q => (argH_is ar q).1
  have noA : ∀ {b : Addr} {o : Obj} {es : Array DictEntry} {ep : Nat}, s₁.heap.get? b = some o → o.data = .dict es ep → argH K s₁.heap A b = none := fun {b o es ep} e d => by
    cases q : argH K s₁.heap A b with
    | none => rfl
    | some u =>
      obtain ⟨_, vs, _, _, ⟨e2, _⟩ | ⟨e2, _⟩⟩ := argH_is ar q
      · rw [e2] at e
        cases e
        have d' : Data.seq vs.toArray _ = Data.dict es ep := d
        cases d'
      · rw [e2] at e
        cases e
        have d' : Data.seq vs.toArray _ = Data.dict es ep := d
        cases d'
  generalize argH K s₁.heap A = H at hO hok hS hK noA
  have base_of : ∀ {b : Addr} {o : Obj}, s₁.heap.get? b = some o → H b = none → (hidT s₁.heap H).get? b = some o := fun e n => hidT_get e n
  have nsK : ∀ {b : Addr} {m : Str → Option Value}, s₁.heap.Ns b m → (hidT s₁.heap H).Ns b m := fun {b m} ⟨o, es, ep, e, d, r⟩ => ⟨o, es, ep, base_of e (noA e d), d, r⟩
  have nK : ∀ b o, K.lookup b = some o → H b = none := fun b o e => by
    cases q : H b with
    | none => rfl
    | some u =>
      rw [hK b u q] at e
      cases e
  have hKb : K.In (hidT s₁.heap H) := fun b o e => base_of (KX b o e) (nK b o e)
  have hM : Mod K mg (hidT s₁.heap H) := ⟨hKb, nsK hns, ⟨mb, nsK hb, hbb⟩, let ⟨mc, h1, h2⟩ := hlim; ⟨mc, nsK h1, h2⟩⟩
  have e0 : Env0 P w K mg (hidT s₁.heap H) callerA [] s₁ H := ⟨rfl, hM, fun b o e => of_hidT e, Nat.le_of_eq (hidT_size _ _), trivial, fun b hb => absurd (show b ∈ ([] : List Addr) from hb) (by simp), hok, .of_eq hg⟩
  have hl : vals.length = ps.length := by rw [wellAll_len hwl]; exact hlen
  refine codeAny_mono ((F _ hKb (nsK hns)).run callerA [] s₁ H ⟨vals, []⟩ vals (vals.map toV) _ _ hr e0 (hbind s₁ vals hl) hV (hsp H _ hO hS)) fun r s' x => ?_
  cases r with
  | error e => exact (hCX H e s' x).elim
  | ok fl =>
    cases fl with
    | next => exact False.elim x
    | brk => exact False.elim x
    | cont => exact False.elim x
    | ret u =>
      obtain ⟨v, H', os, bare, un, hok', r', q⟩ := x
      have kept : ∀ b o, s₁.heap.get? b = some o → s'.heap.get? b = some o := fun b o e => by
        cases q2 : H b with
        | none => exact un.keep b o e q2 (by intro z; exact absurd (show b ∈ ([] : List Addr) from z) (by simp)) (by simp)
        | some u2 =>
          rcases hO b with z | ⟨ob, u3, z⟩
          · rw [q2] at z
            cases z
          · have z2 := un.frzs b ob _ z
            obtain ⟨e1, _⟩ := hok b _ z
            obtain ⟨e2, _⟩ := hok' b _ z2
            rw [e] at e1
            cases e1
            exact e2
      have KX' : K.In s'.heap := fun b o e => kept b o (KX b o e)
      obtain ⟨as, hrd⟩ := Dw.reads (R := R) (cl := cl) hok' KX' d0 v u q r'
      exact ⟨u, as, rfl, hrd, OldK.of_keep kept, os, bare⟩
/-! ### the row -/
theorem layable_weight {ds : List WData} (h : WData.layableAll ds = true) : ∀ d ∈ ds, d.weight ≤ 1048576 := fun d hd =>
  (PySem.W.layableW_iff.mp (List.all_eq_true.mp h d hd)).2.2
theorem encAll_len : ∀ (cs : List Codec) (a : Codec.denoteAll cs), (Codec.encAll cs a).length = cs.length
  | [], _ => rfl
  | c :: cs, a => by
    show (Codec.encAll cs a.2).length + 1 = cs.length + 1
    rw [encAll_len cs a.2]
/-- the goal that k_headS leaves (case hc), from the promise of the row's def: whatever the arguments that the codecs let and the row asks for, the def gives what stands for enc (f ..) -/
theorem walk_spec {r : OpenSpec} {k : Nat} {q : Program} {loose : List Str} {XP : (Str → Option Value) → Heap → Prop} {YP : World → Heap → Prop} {d : DefRec} {K : Params → PySem.W.Frag} {CX : World → CXT} {ps : List Str} {sp : World → Sp}
    (hwell : r.wellSaid = true) (hdf : d.params.defaults = []) (hlen : r.args.length = ps.length) (hr : Room k callerA)
    (hY : ∀ (w : World) (h : Heap), YP w h → (K w.params).In h)
    (F : ∀ (w : World) (mg : Str → Option Value) (fa : Addr) (h : Heap), YP w h → (K w.params).In h → h.Ns mainGlobals mg → mg d.name = some (.ref fa) →
      ∃ fd : FuncData, (∀ (s : Shared) (us : List Value), us.length = ps.length → BindsTo s fd ⟨us, []⟩ (ps.zip us)) ∧
        ∀ base : Heap, (K w.params).In base → base.Ns mainGlobals mg → FnOk r.prog w (K w.params) mg base (CX w) k fa fd ps (sp w))
    (hsp : ∀ (w : World) (H : Hp) (xs : List V) (a : Codec.denoteAll r.args), OnlyF H → Codec.withinAll r.args a = true → Codec.app r.args r.asked a = true → DwAll (K w.params) H xs (Codec.encAll r.args a) →
      sp w xs H (fun v H' => Dw (K w.params) H' v (r.ret.enc (Codec.app r.args r.f a))) fun _ _ _ => False)
    (hCX : ∀ (w : World) (H : Hp) (s : Shared) (e : Value) (s' : Shared), CX w [] H s (fun _ _ _ => False) e s' → False) :
    PySem.W.WalkOS q loose XP YP r d [] (fun f vs => PySem.call f vs) := by
  intro w s_0 s₁ mg mb G Y fa o pm cd doc dV kV ho hd hcd hD hmg hg args vals as hpre hlay hrd hwl hlo
  obtain ⟨a, e1, e2⟩ := PySem.W.os_pre_some hpre
  obtain ⟨e3, hwi⟩ := Codec.encAll_of_decAll r.args args a e1
  subst e3
  have KX := hY w _ Y
  obtain ⟨fd, hb, hF⟩ := F w mg fa _ Y KX G.T.g hmg
  refine PySem.W.enter_call (codeAny_mono (spec_call (R := []) (cl := classAt s_0.heap) (d0 := r.ret.enc (Codec.app r.args r.f a)) KX G.T.g G.T.b G.T.builtins G.T.nolimit hg hwl (pl_encAll _ _) (layable_weight hlay) hr hF hb (by rw [encAll_len]; exact hlen)
    (fun H xs hO hS => hsp w H xs a hO hwi e2 hS) fun H e s' => hCX w H s₁ e s') fun r' s' hq => ?_)
  obtain ⟨u, as', rfl, h1, h2, h3, h4⟩ := hq
  exact ⟨.inl ⟨u, _, as', rfl, fun _ => rfl, h1, (OpenSpec.post_iff hwell hwi _ _).mpr rfl, fun z => Bool.noConfusion (show false = true from z)⟩, h2, h3, h4⟩
/-- the same where the promise hangs on the written part alone -/
theorem walk_specK {r : OpenSpec} {k : Nat} {q : Program} {loose : List Str} {XP : (Str → Option Value) → Heap → Prop} {YP : World → Heap → Prop} {d : DefRec} {K : Params → PySem.W.Frag} {CX : CXT} {ps : List Str} {sp : PySem.W.Frag → Sp}
    (hwell : r.wellSaid = true) (hdf : d.params.defaults = []) (hlen : r.args.length = ps.length) (hr : Room k callerA)
    (hY : ∀ (w : World) (h : Heap), YP w h → (K w.params).In h)
    (F : ∀ (w : World) (mg : Str → Option Value) (fa : Addr) (h : Heap), YP w h → (K w.params).In h → h.Ns mainGlobals mg → mg d.name = some (.ref fa) →
      ∃ fd : FuncData, (∀ (s : Shared) (us : List Value), us.length = ps.length → BindsTo s fd ⟨us, []⟩ (ps.zip us)) ∧
        ∀ base : Heap, (K w.params).In base → base.Ns mainGlobals mg → FnOk r.prog w (K w.params) mg base CX k fa fd ps (sp (K w.params)))
    (hsp : ∀ (K : PySem.W.Frag) (H : Hp) (xs : List V) (a : Codec.denoteAll r.args), OnlyF H → Codec.withinAll r.args a = true → Codec.app r.args r.asked a = true → DwAll K H xs (Codec.encAll r.args a) →
      sp K xs H (fun v H' => Dw K H' v (r.ret.enc (Codec.app r.args r.f a))) fun _ _ _ => False)
    (hCX : ∀ (H : Hp) (s : Shared) (e : Value) (s' : Shared), CX [] H s (fun _ _ _ => False) e s' → False) :
    PySem.W.WalkOS q loose XP YP r d [] (fun f vs => PySem.call f vs) :=
  walk_spec (K := K) (CX := fun _ => CX) (sp := fun w => sp (K w.params)) hwell hdf hlen hr hY F (fun w H xs a h1 h2 h3 h4 => hsp (K w.params) H xs a h1 h2 h3 h4) fun _ H s e s' => hCX H s e s'
end L2
-- rests on (row put in by the clerk, for the bench that shows a file only what it spells): KE.SpHead KE.OsShapes
end
section
set_option Elab.async false
set_option linter.all false
namespace Br
open Sv04
/-! ### bits: sums without carries -/
theorem xor_add_and (m n : Nat) : (m ^^^ n) + 2 * (m &&& n) = m + n := Bits.nat_xor_add_and m n
theorem sub_xor {x y : Nat} (h : x &&& y = y) : x - y = x ^^^ y := by
  have := xor_add_and x y
  rw [h] at this
  omega
theorem add_xor {x y : Nat} (h : x &&& y = 0) : x + y = x ^^^ y := by
  have := xor_add_and x y
  rw [h] at this
  omega
theorem testBit_inv {a : Nat} (h : a < 256) (i : Nat) : (255 - a).testBit i = (decide (i < 8) && !a.testBit i) := by
  have e : 255 - a = 2 ^ 8 - (a + 1) := by omega
  rw [e, Nat.testBit_two_pow_sub_succ (by omega)]
theorem testBit_hi {a : Nat} (h : a < 256) {i : Nat} (hi : ¬ i < 8) : a.testBit i = false :=
  Nat.testBit_lt_two_pow (Nat.lt_of_lt_of_le (show a < 2 ^ 8 from h) (Nat.pow_le_pow_right (by decide) (by omega)))
/-- a byte told by its eight bits -/
theorem eq_pack {x : Nat} {f : Nat → Bool} (h : ∀ i, x.testBit i = (decide (i < 8) && f i)) : x = pack f := by
  refine Nat.eq_of_testBit_eq fun i => ?_
  rw [h, pack_mask, maskOf_bit]
def chosenB (how : Int) (a b c : Nat) : Nat := pack fun i => chosen how (a.testBit i) (b.testBit i) (c.testBit i)
section
variable {a b c : Nat} (ha : a < 256) (hb : b < 256) (hc : c < 256)
include ha hb hc
theorem ch0 : (a &&& b) ||| (a &&& c) ||| (b &&& c) = chosenB 0 a b c := by
  refine eq_pack fun i => ?_
  rw [Nat.testBit_or, Nat.testBit_or, Nat.testBit_and, Nat.testBit_and, Nat.testBit_and]
  by_cases hi : i < 8
  · rw [decide_eq_true hi, Bool.true_and]
    generalize a.testBit i = x
    generalize b.testBit i = y
    generalize c.testBit i = z
    revert x y z
    decide
  · rw [testBit_hi ha hi, testBit_hi hb hi, testBit_hi hc hi, decide_eq_false hi]
    rfl
theorem ch1 : (a &&& b) ||| ((255 - a) &&& c) = chosenB 1 a b c := by
  refine eq_pack fun i => ?_
  rw [Nat.testBit_or, Nat.testBit_and, Nat.testBit_and, testBit_inv ha]
  by_cases hi : i < 8
  · rw [decide_eq_true hi, Bool.true_and, Bool.true_and]
    generalize a.testBit i = x
    generalize b.testBit i = y
    generalize c.testBit i = z
    revert x y z
    decide
  · rw [testBit_hi ha hi, testBit_hi hb hi, testBit_hi hc hi, decide_eq_false hi]
    rfl
theorem ch2 : a ^^^ b ^^^ c = chosenB 2 a b c := by
  refine eq_pack fun i => ?_
  rw [Nat.testBit_xor, Nat.testBit_xor]
  by_cases hi : i < 8
  · rw [decide_eq_true hi, Bool.true_and]
    generalize a.testBit i = x
    generalize b.testBit i = y
    generalize c.testBit i = z
    revert x y z
    decide
  · rw [testBit_hi ha hi, testBit_hi hb hi, testBit_hi hc hi, decide_eq_false hi]
    rfl
theorem ch3_le : (a ^^^ b ^^^ c) &&& (a &&& b &&& c) = (a &&& b &&& c) := by
  refine Nat.eq_of_testBit_eq fun i => ?_
  rw [Nat.testBit_and, Nat.testBit_and, Nat.testBit_and, Nat.testBit_xor, Nat.testBit_xor]
  generalize a.testBit i = x
  generalize b.testBit i = y
  generalize c.testBit i = z
  revert x y z
  decide
theorem ch3 : (a ^^^ b ^^^ c) - (a &&& b &&& c) = chosenB 3 a b c := by
  rw [sub_xor (ch3_le ha hb hc)]
  refine eq_pack fun i => ?_
  rw [Nat.testBit_xor, Nat.testBit_and, Nat.testBit_and, Nat.testBit_xor, Nat.testBit_xor]
  by_cases hi : i < 8
  · rw [decide_eq_true hi, Bool.true_and]
    generalize a.testBit i = x
    generalize b.testBit i = y
    generalize c.testBit i = z
    revert x y z
    decide
  · rw [testBit_hi ha hi, testBit_hi hb hi, testBit_hi hc hi, decide_eq_false hi]
    rfl
theorem or3_lt : a ||| b ||| c < 256 := Nat.or_lt_two_pow (n := 8) (Nat.or_lt_two_pow ha hb) hc
theorem ch3_sub : (a &&& b &&& c) ≤ (a ^^^ b ^^^ c) := by
  rw [← ch3_le ha hb hc]
  exact Nat.and_le_left
theorem ch4 : (a &&& b &&& c) + (255 - (a ||| b ||| c)) = chosenB 4 a b c := by
  have ho := or3_lt ha hb hc
  have e0 : (a &&& b &&& c) &&& (255 - (a ||| b ||| c)) = 0 := by
    refine Nat.eq_of_testBit_eq fun i => ?_
    rw [Nat.testBit_and, Nat.testBit_and, Nat.testBit_and, testBit_inv ho, Nat.testBit_or, Nat.testBit_or, Nat.zero_testBit]
    generalize a.testBit i = x
    generalize b.testBit i = y
    generalize c.testBit i = z
    generalize decide (i < 8) = u
    revert x y z u
    decide
  rw [add_xor e0]
  refine eq_pack fun i => ?_
  rw [Nat.testBit_xor, Nat.testBit_and, Nat.testBit_and, testBit_inv ho, Nat.testBit_or, Nat.testBit_or]
  by_cases hi : i < 8
  · rw [decide_eq_true hi, Bool.true_and, Bool.true_and]
    generalize a.testBit i = x
    generalize b.testBit i = y
    generalize c.testBit i = z
    revert x y z
    decide
  · rw [testBit_hi ha hi, testBit_hi hb hi, testBit_hi hc hi, decide_eq_false hi]
    rfl
end
theorem chX {how : Int} {a b c : Nat} (h0 : how ≠ 0) (h1 : how ≠ 1) (h2 : how ≠ 2) (h3 : how ≠ 3) (h4 : how ≠ 4) : chosenB how a b c = 0 := by
  have e : (fun i => chosen how (a.testBit i) (b.testBit i) (c.testBit i)) = fun _ => false := by
    funext i
    unfold chosen
    rw [if_neg h0, if_neg h1, if_neg h2, if_neg h3, if_neg h4]
  unfold chosenB
  rw [e, pack_none]
theorem shown_choose (how : Int) (a b c : Vec) : shown (ofBits fun i => chosen how (bitAt a i) (bitAt b i) (bitAt c i)) = (List.range 64).map fun j => ((chosenB how (byte a j) (byte b j) (byte c j) : Nat) : Int) := by
  rw [shown_ofBits]
  refine List.map_congr_left fun j _ => ?_
  unfold chosenB
  have e : (pack fun i => chosen how (bitAt a (8 * j + i)) (bitAt b (8 * j + i)) (bitAt c (8 * j + i))) = pack fun i => chosen how ((byte a j).testBit i) ((byte b j).testBit i) ((byte c j).testBit i) := pack_congr fun i hi => by
    unfold bitAt
    have e1 : (8 * j + i) / 8 = j := by omega
    have e2 : (8 * j + i) % 8 = i := by omega
    rw [e1, e2]
  rw [e]
/-! ### widths -/
def IsW (w : Nat) : Prop := w = 1 ∨ w = 2 ∨ w = 4 ∨ w = 8
theorem IsW.pos {w : Nat} (h : IsW w) : 0 < w := by
  rcases h with rfl | rfl | rfl | rfl <;> decide
theorem IsW.le {w : Nat} (h : IsW w) : w ≤ 8 := by
  rcases h with rfl | rfl | rfl | rfl <;> decide
theorem IsW.mul {w : Nat} (h : IsW w) : 64 / w * w = 64 := by
  rcases h with rfl | rfl | rfl | rfl <;> decide
theorem IsW.n_le {w : Nat} (h : IsW w) : 64 / w ≤ 64 := Nat.div_le_self _ _
theorem IsW.n_pos {w : Nat} (h : IsW w) : 0 < 64 / w := by
  rcases h with rfl | rfl | rfl | rfl <;> decide
theorem mem_widths {w : Int} : w ∈ widths ↔ w = 1 ∨ w = 2 ∨ w = 4 ∨ w = 8 := by
  unfold widths
  simp
theorem isW_of {w : Int} (h : w ∈ widths) : IsW w.toNat ∧ ((w.toNat : Nat) : Int) = w := by
  rcases mem_widths.mp h with rfl | rfl | rfl | rfl
  · exact ⟨.inl rfl, rfl⟩
  · exact ⟨.inr (.inl rfl), rfl⟩
  · exact ⟨.inr (.inr (.inl rfl)), rfl⟩
  · exact ⟨.inr (.inr (.inr rfl)), rfl⟩
/-! ### lanes -/
def lanes (v : Vec) (w : Nat) : List Nat := (List.range (64 / w)).map (lane v w)
theorem lanes_len (v : Vec) (w : Nat) : (lanes v w).length = 64 / w := by
  unfold lanes
  rw [List.length_map, List.length_range]
theorem lanes_at (v : Vec) {w j : Nat} (h : j < 64 / w) : (lanes v w)[j]? = some (lane v w j) := by
  unfold lanes
  rw [List.getElem?_map, List.getElem?_range h]
  rfl
theorem lane_lt64 (v : Vec) {w : Nat} (h : IsW w) (j : Nat) : lane v w j < 2 ^ 64 := by
  refine Nat.lt_of_lt_of_le (lane_lt v w j) ?_
  rcases h with rfl | rfl | rfl | rfl <;> decide
/-- the bytes of a lane, cut out of the row -/
theorem shown_cut (v : Vec) {w j : Nat} (h : w * j + w ≤ 64) : ((shown v).drop (w * j)).take w = (laneBytes v w j).map fun n : Nat => (n : Int) := by
  refine List.ext_getElem? fun i => ?_
  unfold shown laneBytes
  by_cases hi : i < w
  · rw [List.getElem?_take_of_lt hi, List.getElem?_drop, List.getElem?_map, List.getElem?_range (by omega), List.getElem?_map, List.getElem?_map, List.getElem?_range hi]
    rfl
  · rw [List.getElem?_eq_none (by rw [List.length_take]; omega), List.getElem?_eq_none (by rw [List.length_map, List.length_map, List.length_range]; omega)]
theorem num_take_succ (l : List Nat) {i x : Nat} (h : l[i]? = some x) : num (l.take (i + 1)) = num (l.take i) + x * 2 ^ (8 * i) := by
  have hlt := (List.getElem?_eq_some_iff.mp h).1
  rw [List.take_add_one, h]
  show num (l.take i ++ [x]) = _
  rw [num_snoc, List.length_take, Nat.min_eq_left (by omega), Nat.pow_mul]
/-- the lowest bytes of a number -/
def bl (z : Int) (w : Nat) : List Int := (List.range w).map fun p => z / 256 ^ p % 256
theorem bl_len (z : Int) (w : Nat) : (bl z w).length = w := by
  unfold bl
  rw [List.length_map, List.length_range]
theorem flat_range (w : Nat) (hw : 0 < w) (g : Nat → Nat → Int) : ∀ n : Nat, (List.range n).flatMap (fun j => (List.range w).map (g j)) = (List.range (n * w)).map fun b => g (b / w) (b % w)
  | 0 => by
    rw [Nat.zero_mul]
    rfl
  | n + 1 => by
    rw [List.range_succ, List.flatMap_append, flat_range w hw g n, Nat.add_mul, Nat.one_mul, List.range_add, List.map_append, List.map_map]
    refine congrArg _ ?_
    show (List.range w).map (g n) ++ [] = _
    rw [List.append_nil]
    refine List.map_congr_left fun i hi => ?_
    have hi' := List.mem_range.mp hi
    show g n i = g ((n * w + i) / w) ((n * w + i) % w)
    have e1 : (n * w + i) / w = n := by
      rw [Nat.mul_comm, Nat.mul_add_div hw, Nat.div_eq_of_lt hi', Nat.add_zero]
    have e2 : (n * w + i) % w = i := by
      rw [Nat.mul_comm, Nat.mul_add_mod, Nat.mod_eq_of_lt hi']
    rw [e1, e2]
/-- the row of these lanes -/
theorem flat_lanes {w : Nat} (hw : IsW w) (z : Nat → Int) (f : Nat → Nat) (h : ∀ j i, j < 64 / w → i < w → z j / 256 ^ i % 256 = ((f j / 256 ^ i % 256 : Nat) : Int)) :
    ((List.range (64 / w)).map z).flatMap (fun x => bl x w) = shown (ofLanes w f) := by
  rw [shown_ofLanes, List.flatMap_map]
  show (List.range (64 / w)).flatMap (fun j => (List.range w).map fun p => z j / 256 ^ p % 256) = _
  rw [flat_range w hw.pos (fun j p => z j / 256 ^ p % 256), hw.mul]
  refine List.map_congr_left fun b hb => ?_
  have hb' := List.mem_range.mp hb
  refine h (b / w) (b % w) ?_ (Nat.mod_lt _ hw.pos)
  rcases hw with rfl | rfl | rfl | rfl <;> omega
theorem cast_byte (n i : Nat) : (n : Int) / 256 ^ i % 256 = ((n / 256 ^ i % 256 : Nat) : Int) := by
  rw [Int.natCast_emod, Int.natCast_ediv, Int.natCast_pow]
  rfl
/-- a number that does not fit: its four lowest bytes are those of its rest -/
theorem low_bytes (x : Int) {i : Nat} (h : i < 4) : x / 256 ^ i % 256 = (((x % (2 ^ 32 : Nat)).toNat / 256 ^ i % 256 : Nat) : Int) := by
  rw [← cast_byte, Int.toNat_of_nonneg (Int.emod_nonneg _ (by decide))]
  have e32 : (((2 : Nat) ^ 32 : Nat) : Int) = 4294967296 := rfl
  rw [e32]
  match i, h with
  | 0, _ =>
    show x / 1 % 256 = x % 4294967296 / 1 % 256
    omega
  | 1, _ =>
    show x / 256 % 256 = x % 4294967296 / 256 % 256
    omega
  | 2, _ =>
    show x / 65536 % 256 = x % 4294967296 / 65536 % 256
    omega
  | 3, _ =>
    show x / 16777216 % 256 = x % 4294967296 / 16777216 % 256
    omega
  | n + 4, h => omega
/-! ### signs -/
theorem top_bit {x n : Nat} (h : x < 2 ^ (n + 1)) : x.testBit n = decide (2 ^ n ≤ x) := by
  by_cases k : 2 ^ n ≤ x
  · rw [decide_eq_true k]
    have e : x = 2 ^ n + (x - 2 ^ n) := by omega
    rw [Nat.pow_succ] at h
    rw [e, Nat.testBit_two_pow_add_eq, Nat.testBit_lt_two_pow (by omega)]
    rfl
  · rw [decide_eq_false k, Nat.testBit_lt_two_pow (by omega)]
theorem signed_bit {x w : Nat} (hw : 0 < w) (h : x < 2 ^ w) : signed w x = if x.testBit (w - 1) = true then (x : Int) - 2 ^ w else (x : Int) := by
  obtain ⟨n, rfl⟩ : ∃ n, w = n + 1 := ⟨w - 1, by omega⟩
  show (if x < 2 ^ n then (x : Int) else (x : Int) - ((2 ^ (n + 1) : Nat) : Int)) = if x.testBit n = true then (x : Int) - 2 ^ (n + 1) else (x : Int)
  rw [top_bit h]
  by_cases k : 2 ^ n ≤ x
  · rw [if_neg (by omega), if_pos (decide_eq_true k)]
    push_cast
    rfl
  · rw [if_pos (by omega), if_neg (by simpa using k)]
/-! ### pick -/
theorem pick_at (a b : Vec) {w : Nat} (hw : IsW w) (p : Nat) : (lanes a w ++ lanes b w)[p % (2 * (64 / w))]? = some (if p % (2 * (64 / w)) < 64 / w then lane a w (p % (2 * (64 / w))) else lane b w (p % (2 * (64 / w)) - 64 / w)) := by
  have hn := hw.n_pos
  have hp : p % (2 * (64 / w)) < 2 * (64 / w) := Nat.mod_lt _ (by omega)
  generalize p % (2 * (64 / w)) = q at hp
  by_cases h : q < 64 / w
  · rw [if_pos h, List.getElem?_append_left (by rw [lanes_len]; exact h), lanes_at a h]
  · rw [if_neg h, List.getElem?_append_right (by rw [lanes_len]; omega), lanes_len, lanes_at b (by omega)]
def pickL (w : Nat) (p a b : Vec) (k j : Nat) : Nat := if k.testBit j = true then (let q := lane p w j % (2 * (64 / w)); if q < 64 / w then lane a w q else lane b w (q - 64 / w)) else 0
theorem shown_picked {w : Nat} (hw : IsW w) (p a b : Vec) (k : Nat) : ((List.range (64 / w)).map fun j => ((pickL w p a b k j : Nat) : Int)).flatMap (fun x => bl x w) = shown (picked w p a b k) := by
  have e : ofLanes w (pickL w p a b k) = picked w p a b k := rfl
  rw [← e]
  exact flat_lanes hw (fun j => ((pickL w p a b k j : Nat) : Int)) (pickL w p a b k) fun j i _ _ => cast_byte (pickL w p a b k j) i
theorem shown_zeros : shown zeros = List.replicate 64 0 := by
  have e : shown zeros = (List.range 64).map fun _ => (0 : Int) := (shown_ofBytes fun _ => 0).trans (List.map_congr_left fun _ _ => rfl)
  rw [e]
  exact (List.map_const' (l := List.range 64) (b := (0 : Int))).trans (congrArg (fun n => List.replicate n (0 : Int)) List.length_range)
/-! ### fields -/
theorem field_or {q s : Nat} (hq : q < 2 ^ 64) (hs : s < 64) : ((q / 2 ^ s) ||| (q * 2 ^ (64 - s))) % 256 = (q / 2 ^ s + q * 2 ^ (64 - s)) % 256 := by
  have h : q / 2 ^ s < 2 ^ (64 - s) := by
    rw [Nat.div_lt_iff_lt_mul (Nat.two_pow_pos s), ← Nat.pow_add]
    have e : 64 - s + s = 64 := by omega
    rw [e]
    exact hq
  rw [Nat.or_comm, or_add h, Nat.add_comm]
def fieldB (x s : Vec) (k j : Nat) : Nat := if k.testBit j = true then field x (byte s j % 64) j else 0
theorem fieldB_lt (x s : Vec) (k j : Nat) : fieldB x s k j < 256 := by
  unfold fieldB field
  split
  · exact Nat.mod_lt _ (by decide)
  · decide
theorem shown_fields (x s : Vec) (k : Nat) : shown (ofBytes fun j => if k.testBit j = true then field x (byte s j % 64) j else 0) = (List.range 64).map fun j => ((fieldB x s k j : Nat) : Int) := by
  rw [shown_ofBytes]
  refine List.map_congr_left fun j _ => ?_
  have := fieldB_lt x s k j
  show ((fieldB x s k j % 256 : Nat) : Int) = _
  rw [Nat.mod_eq_of_lt this]
/-! ### dots -/
def prods (A B : List Nat) : List Int := (A.zip B).map fun x => (x.1 : Int) * signed 8 x.2
theorem foldl_sum : ∀ (l : List Int) (z : Int), l.foldl (fun x y => x + y) z = z + l.sum
  | [], z => by
    show z = z + 0
    omega
  | a :: l, z => by
    show l.foldl (fun x y => x + y) (z + a) = z + (a :: l).sum
    rw [foldl_sum l (z + a), List.sum_cons]
    omega
theorem zip_map' {α β γ : Type} (f : α → β) (g : α → γ) : ∀ l : List α, (l.map f).zip (l.map g) = l.map fun x => (f x, g x)
  | [] => rfl
  | a :: l => by
    show (f a, g a) :: (l.map f).zip (l.map g) = (f a, g a) :: l.map fun x => (f x, g x)
    rw [zip_map' f g l]
theorem dot_eq (s : Int) (a b : Vec) (j : Nat) : dot s a b j = s + (prods (laneBytes a 4 j) (laneBytes b 4 j)).sum := by
  unfold dot prods laneBytes
  rw [foldl_sum, Int.zero_add, zip_map', List.map_map]
  rfl
def dotZ (held : Int) (s a b : Vec) (k j : Nat) : Int :=
  if k.testBit j = true then (let x := dot (signed 32 (lane s 4 j)) a b j; if held ≠ 0 then max (-2147483648) (min 2147483647 x) else x) else (lane s 4 j : Int)
theorem shown_dots (held : Int) (s a b : Vec) (k : Nat) : ((List.range 16).map (dotZ held s a b k)).flatMap (fun x => bl x 4) = shown (ofLanes 4 fun j => if k.testBit j = true then kept (decide (held ≠ 0)) (dot (signed 32 (lane s 4 j)) a b j) else lane s 4 j) := by
  refine flat_lanes (w := 4) (.inr (.inr (.inl rfl))) _ _ fun j i _ hi => ?_
  unfold dotZ
  by_cases hk : k.testBit j = true
  · rw [if_pos hk, if_pos hk]
    unfold kept
    by_cases hh : held ≠ 0
    · have e : (if decide (held ≠ 0) = true then max (-(2 ^ 31)) (min (2 ^ 31 - 1) (dot (signed 32 (lane s 4 j)) a b j)) else dot (signed 32 (lane s 4 j)) a b j) = max (-2147483648) (min 2147483647 (dot (signed 32 (lane s 4 j)) a b j)) := by
        rw [if_pos (decide_eq_true hh)]
        rfl
      rw [e]
      show (if held ≠ 0 then _ else _) / 256 ^ i % 256 = _
      rw [if_pos hh]
      exact low_bytes _ hi
    · have e : (if decide (held ≠ 0) = true then max (-(2 ^ 31)) (min (2 ^ 31 - 1) (dot (signed 32 (lane s 4 j)) a b j)) else dot (signed 32 (lane s 4 j)) a b j) = dot (signed 32 (lane s 4 j)) a b j := if_neg (by simpa using hh)
      rw [e]
      show (if held ≠ 0 then _ else _) / 256 ^ i % 256 = _
      rw [if_neg hh]
      exact low_bytes _ hi
  · rw [if_neg hk, if_neg hk]
    exact cast_byte _ _
/-! ### tests -/
theorem num_zero : ∀ l : List Nat, num l = 0 ↔ ∀ x ∈ l, x = 0
  | [] => by
    constructor
    · intro _ x hx
      cases hx
    · intro _
      rfl
  | a :: l => by
    have ih := num_zero l
    have e : num (a :: l) = a + 256 * num l := rfl
    rw [e]
    constructor
    · intro h x hx
      rcases List.mem_cons.mp hx with z | z
      · omega
      · exact ih.mp (by omega) x z
    · intro h
      have h1 := h a (List.Mem.head _)
      have h2 := ih.mpr fun x hx => h x (List.Mem.tail _ hx)
      omega
def both (a b : Vec) : Vec := ofBytes fun j => byte a j &&& byte b j
theorem both_lt (a b : Vec) (j : Nat) : byte a j &&& byte b j < 256 := Nat.lt_of_le_of_lt Nat.and_le_left (byte_lt a j)
theorem shown_both (a b : Vec) : shown (both a b) = (List.range 64).map fun j => ((byte a j &&& byte b j : Nat) : Int) := by
  unfold both
  rw [shown_ofBytes]
  refine List.map_congr_left fun j _ => ?_
  rw [Nat.mod_eq_of_lt (both_lt a b j)]
theorem common_lane (a b : Vec) {w j : Nat} (hw : IsW w) (hj : j < 64 / w) : decide (lane (both a b) w j = 0) = !common a b w j := by
  have hb : ∀ i, i < w → byte (both a b) (w * j + i) = byte a (w * j + i) &&& byte b (w * j + i) := fun i hi => by
    unfold both
    have h64 : w * j + i < 64 := by
      rcases hw with rfl | rfl | rfl | rfl <;> omega
    rw [byte_ofBytes h64, Nat.mod_eq_of_lt (both_lt a b _)]
  have e : (lane (both a b) w j = 0) ↔ ¬ common a b w j = true := by
    rw [lane_num, num_zero]
    unfold common laneBytes
    rw [List.any_eq_true]
    constructor
    · rintro h ⟨i, hi, hn⟩
      have hi' := List.mem_range.mp hi
      have := h _ (List.mem_map.mpr ⟨i, hi, rfl⟩)
      rw [hb i hi'] at this
      rw [this] at hn
      exact absurd hn (by decide)
    · intro h x hx
      obtain ⟨i, hi, rfl⟩ := List.mem_map.mp hx
      have hi' := List.mem_range.mp hi
      rw [hb i hi']
      by_cases z : byte a (w * j + i) &&& byte b (w * j + i) = 0
      · exact z
      · exact absurd ⟨i, hi, bne_iff_ne.mpr z⟩ h
  by_cases c : common a b w j = true
  · rw [c, decide_eq_false (fun z => e.mp z c)]
    rfl
  · rw [decide_eq_true (e.mpr c), Bool.eq_false_iff.mpr c]
    rfl
/-! ### join -/
theorem join_or (a b n : Nat) : ((a % 2 ^ n) ||| (b * 2 ^ n)) % 2 ^ 64 = (a % 2 ^ n + b * 2 ^ n) % 2 ^ 64 := by
  rw [Nat.or_comm, or_add (Nat.mod_lt _ (Nat.two_pow_pos n)), Nat.add_comm]
end Br

end
section
set_option Elab.async false
set_option linter.all false
set_option maxRecDepth 100000
set_option maxHeartbeats 4000000
/-! Rules beside the layer's: enumerate in a for, o[i] op= at a list, a module's dict; words for heaps and lists of ints. -/
namespace Br
open PySem PySem.Spec PyProof.Rows L2
/-! ### heaps -/
/-- all but these stand as they stood -/
def But (xs : List Addr) (H H' : Hp) : Prop := ∀ b o, H b = some o → b ∉ xs → H' b = some o
theorem But.refl {xs : List Addr} {H : Hp} : But xs H H := fun _ _ h _ => h
theorem But.trans {xs : List Addr} {H H1 H2 : Hp} (a : But xs H H1) (b : But xs H1 H2) : But xs H H2 := fun c o h n => b c o (a c o h n) n
theorem But.mono {xs ys : List Addr} {H H' : Hp} (a : But xs H H') (h : ∀ b, b ∈ xs → b ∈ ys) : But ys H H' := fun c o e n => a c o e fun m => n (h c m)
theorem But.same {H H' : Hp} (a : But [] H H') : Same H H' := fun b o e => a b o e (by simp)
theorem But.of_same {xs : List Addr} {H H' : Hp} (a : Same H H') : But xs H H' := fun b o e _ => a b o e
theorem But.at1 {x : Addr} {H H' : Hp} (a : But [x] H H') {b : Addr} {o : HO} (e : H b = some o) (n : b ≠ x) : H' b = some o := a b o e (by simpa using n)
theorem But.at2 {x y : Addr} {H H' : Hp} (a : But [x, y] H H') {b : Addr} {o : HO} (e : H b = some o) (n : b ≠ x) (n2 : b ≠ y) : H' b = some o := a b o e (by simp [n, n2])
theorem Same.new {H : Hp} {l : Addr} {o : HO} (h : H l = Option.none) : Same H (upd H l o) := fun b u e => by
  rw [upd_ne (ne_of_none e h)]
  exact e
theorem But.upd1 {H : Hp} {l : Addr} {o : HO} : But [l] H (upd H l o) := fun b u e n => by
  rw [upd_ne (by simpa using n)]
  exact e
theorem But.none1 {x : Addr} {H H' : Hp} (a : But [x] H H') {b : Addr} (e : H' b = Option.none) (n : b ≠ x) : H b = Option.none := by
  cases q : H b with
  | none => rfl
  | some o =>
    rw [a.at1 q n] at e
    cases e
/-- a list or a frozen one: where neither is touched it stands -/
theorem SqL.but {K : PySem.W.Frag} {xs : List Addr} {H H' : Hp} {a : Addr} {vs : List V} (e : But xs H H') (h : SqL K H a vs) (n : a ∉ xs) : SqL K H' a vs := by
  rcases h with (h | ⟨o, h⟩) | h
  · exact .inl (.inl (e _ _ h n))
  · exact .inl (.inr ⟨o, e _ _ h n⟩)
  · exact .inr h
/-! ### lists of ints -/
def vi (l : List Int) : List V := l.map V.int
theorem vi_len (l : List Int) : (vi l).length = l.length := by
  unfold vi
  rw [List.length_map]
theorem vi_at {l : List Int} {i : Nat} {z : Int} (h : l[i]? = some z) : (vi l)[i]? = some (.int z) := by
  unfold vi
  rw [List.getElem?_map, h]
  rfl
theorem vi_of {l : List Int} {i : Nat} {v : V} (h : (vi l)[i]? = some v) : ∃ z, l[i]? = some z ∧ v = .int z := by
  unfold vi at h
  rw [List.getElem?_map] at h
  cases e : l[i]? with
  | none =>
    rw [e] at h
    cases h
  | some z =>
    rw [e] at h
    exact ⟨z, rfl, (Option.some.inj h).symm⟩
theorem vi_append (l m : List Int) : vi (l ++ m) = vi l ++ vi m := List.map_append
theorem vi_set (l : List Int) (i : Nat) (z : Int) : (vi l).set i (.int z) = vi (l.set i z) := by
  unfold vi
  rw [List.map_set]
theorem vi_take (l : List Int) (n : Nat) : (vi l).take n = vi (l.take n) := by
  unfold vi
  rw [List.map_take]
theorem vi_drop (l : List Int) (n : Nat) : (vi l).drop n = vi (l.drop n) := by
  unfold vi
  rw [List.map_drop]
theorem rep_one {α : Type} (x : α) : ∀ k : Nat, (List.replicate k [x]).flatten = List.replicate k x
  | 0 => rfl
  | k + 1 => by
    rw [List.replicate_succ, List.flatten_cons, rep_one x k, List.replicate_succ]
    rfl
theorem vi_rep (k : Nat) (z : Int) : (List.replicate k [V.int z]).flatten = vi (List.replicate k z) := by
  rw [rep_one]
  unfold vi
  rw [List.map_replicate]
theorem ixN_nat {n : Nat} {z : Int} {j : Nat} (e : z = (j : Int)) (h : j < n) : ixN n z = some j := by
  subst e
  unfold ixN
  rw [if_pos (by omega), if_pos (by omega)]
  simp
/-- xs[lo:hi] where both bounds lie within -/
theorem cut_at {xs : List V} {lo hi : Nat} (h : lo ≤ hi) (h2 : hi ≤ xs.length) : cutV xs (some (lo : Int)) (some (hi : Int)) = (xs.drop lo).take (hi - lo) := by
  have e1 : HT.sIx xs.length 0 (some (lo : Int)) = lo := by
    show (if ((lo : Nat) : Int) < 0 then (((lo : Nat) : Int) + (xs.length : Nat)).toNat else min ((lo : Nat) : Int).toNat xs.length) = lo
    rw [if_neg (by omega)]
    omega
  have e2 : HT.sIx xs.length xs.length (some (hi : Int)) = hi := by
    show (if ((hi : Nat) : Int) < 0 then (((hi : Nat) : Int) + (xs.length : Nat)).toNat else min ((hi : Nat) : Int).toNat xs.length) = hi
    rw [if_neg (by omega)]
    omega
  unfold cutV
  rw [e1, e2]
/-- a module's int -/
theorem pe_gi {X : Cx} {x : Str} {i : Int} {t : Tok} {pos : Pos} (hg : Gl X x) (hm : X.mg x = some (.int i t)) (hd : (x == ("__debug__" : Str)) = false := by decide) : PE X (.Name x pos) (tC (.int i)) := pe_glob hg hm ⟨t, rfl⟩ hd
/-! ### for i, x in enumerate(xs) -/
theorem for_enum {K : PySem.W.Frag} {a : Addr} {xs : List V} {g : TG} {tb : TS} {D : Ends} {σ : L2.St} {H : Hp} (Pv : Nat → L2.St → Hp → Prop) (h0 : Pv 0 σ H) (hl : ∀ i σ H, i ≤ xs.length → Pv i σ H → SqL K H a xs)
    (hs : ∀ i x T σ H, xs[i]? = some x → H T = Option.none → Pv i σ H → g (.ref T) σ (upd H T (.tup [.int (i : Nat), x])) fun σ2 H2 => tb { D with nx := Pv (i + 1), ct := Pv (i + 1), bk := D.nx } σ2 H2) (hd : ∀ σ H, Pv xs.length σ H → D.nx σ H) :
    ∃ W : Nat → Nat → L2.St → Hp → Prop, (∃ m, W 0 m σ H) ∧ ∀ i m σ H, W i m σ H →
      ((Ite K a).stop i H ∧ D.nx σ H) ∨ ((Ite K a).go i H ∧ ∃ N : L2.St → Hp → Prop, (∀ σ' H', N σ' H' → ∃ m', m' < m ∧ W (i + 1) m' σ' H') ∧ ∀ x H', (Ite K a).yld i H x H' → g x σ H' fun σ2 H2 => tb { D with nx := N, ct := N, bk := D.nx } σ2 H2) := by
  refine ⟨fun i m σ H => m = xs.length - i ∧ i ≤ xs.length ∧ Pv i σ H, ⟨xs.length, by simp, Nat.zero_le _, h0⟩, ?_⟩
  rintro i m σ H ⟨rfl, hi, p⟩
  have q := hl i σ H hi p
  by_cases hlt : i < xs.length
  · refine .inr ⟨⟨xs, xs[i], q, by simp [hlt]⟩, Pv (i + 1), fun σ' H' p' => ⟨xs.length - (i + 1), by omega, rfl, hlt, p'⟩, fun x H' y => ?_⟩
    obtain ⟨T, z, e, hT, e2, y⟩ := y
    subst e e2
    exact hs i z T σ _ (y xs q) hT p
  · have e : i = xs.length := by omega
    subst e
    exact .inl ⟨⟨xs, q, Nat.le_refl _⟩, hd σ H p⟩
/-! ### o[i] in o[i] op= e, o a list -/
def rGetL (K : PySem.W.Frag) : V → V → Hp → VK → Prop := fun o i H Q => ∃ p xs z j v, o = .ref p ∧ i = .int z ∧ z = ((j : Nat) : Int) ∧ SqL K H p xs ∧ xs[j]? = some v ∧ Q v H
theorem get_list {X : Cx} : PGet X (rGetL X.K) := by
  intro pins s σ H o i ov iv Q I ro ri h
  obtain ⟨p, xs, z, j, v, rfl, rfl, rfl, hq, hj, q⟩ := h
  cases ro
  obtain ⟨t, rfl⟩ := ri
  obtain ⟨its, r, pl, hz⟩ := I.list hq
  obtain ⟨w, ew, rw'⟩ := r.get hj
  have hl := r.length
  have hlt : j < its.length := (List.getElem?_eq_some_iff.mp ew).1
  have hn := line63
  exact wpAny_getItem_list pl.isList (by omega) (by omega) (by simpa using ew) ⟨v, H, I, rw', q⟩
/-! ### d[k] of a dict that the module's top has made: ints to tuples of ints -/
/-- the object at t is a tuple of these ints, made by the top -/
def TupIn (K : PySem.W.Frag) (t : Addr) (ns : List Int) : Prop :=
  ∃ (o : Obj) (its : Array Value) (n : Nat), K.lookup t = some o ∧ o.cls = .type "tuple" ∧ o.data = .seq its n ∧ its.size ≤ sizeLine ∧ Vals (vi ns) its.toList
inductive Ents (K : PySem.W.Frag) : List DictEntry → List (Int × List Int) → Prop
  | nil : Ents K [] []
  | cons {e : DictEntry} {es : List DictEntry} {k : Int} {ns : List Int} {r : List (Int × List Int)} {tk : Tok} {t : Addr} : e.key = .int k tk → e.hash = hashInt k → e.val = .ref t → TupIn K t ns → Ents K es r → Ents K (e :: es) ((k, ns) :: r)
structure TabAt (K : PySem.W.Frag) (d : Addr) (tab : List (Int × List Int)) : Prop where
  at_ : ∃ (o : Obj) (es : Array DictEntry) (ep : Nat), K.lookup d = some o ∧ o.ExactDict ∧ o.data = .dict es ep ∧ Ents K es.toList tab
  nd : (tab.map (·.1)).Nodup
theorem TupIn.sq {K : PySem.W.Frag} {t : Addr} {ns : List Int} (h : TupIn K t ns) (H : Hp) : SqT K H t (vi ns) := .inr h
theorem ents_pairs {P : Program} {w : World} {K : PySem.W.Frag} : ∀ {es : List DictEntry} {tab : List (Int × List Int)}, Ents K es tab →
    ∃ vs : List (Key × Value), PySem.Pairs (mixKind P w) es vs ∧ vs.map (·.1) = tab.map (fun x => (Sum.inl x.1 : Key)) ∧ (∀ e ∈ es, ∃ k, (mixKind P w).is k e.key = true ∧ e.hash = (mixKind P w).hash k) ∧
      ∀ k ns, tab.lookup k = some ns → ∃ t, valueAt vs (Sum.inl k) = some (.ref t) ∧ TupIn K t ns
  | _, _, .nil => ⟨[], .nil, rfl, (fun e he => by simp at he), (fun k ns h => by simp at h)⟩
  | _, _, .cons (e := e) (es := es) (k := k) (ns := ns) (r := r) (tk := tk) (t := t) h1 h2 h3 h4 h5 => by
    obtain ⟨vs, a1, a2, a3, a4⟩ := ents_pairs (P := P) (w := w) h5
    have hk : (mixKind P w).is (Sum.inl k) e.key = true := by
      rw [h1]
      exact mixKind_int P w k tk
    refine ⟨(Sum.inl k, .ref t) :: vs, .cons hk h3 a1, ?_, ?_, ?_⟩
    · rw [List.map_cons, List.map_cons, a2]
    · intro x hx
      rcases List.mem_cons.mp hx with q | q
      · subst q
        exact ⟨Sum.inl k, hk, h2⟩
      · exact a3 x q
    · intro k' ns' hl
      by_cases q : k' = k
      · subst q
        rw [List.lookup_cons_self] at hl
        cases hl
        refine ⟨t, ?_, h4⟩
        unfold valueAt
        rw [List.find?_cons_of_pos (by simp)]
        rfl
      · have hb : (k' == k) = false := beq_eq_false_iff_ne.mpr q
        have hl' : r.lookup k' = some ns' := by
          rw [List.lookup_cons, hb] at hl
          exact hl
        obtain ⟨t', b1, b2⟩ := a4 k' ns' hl'
        refine ⟨t', ?_, b2⟩
        unfold valueAt at b1 ⊢
        rw [List.find?_cons_of_neg (by
          intro z
          have z2 : (Sum.inl k : Key) = Sum.inl k' := by simpa using z
          exact q (Sum.inl.inj z2).symm)]
        exact b1
theorem nodup_inl : ∀ {l : List (Int × List Int)}, (l.map (·.1)).Nodup → (l.map (fun x => (Sum.inl x.1 : Key))).Nodup
  | [], _ => List.nodup_nil
  | x :: l, h => by
    have h' : (x.1 :: l.map (·.1)).Nodup := h
    obtain ⟨h1, h2⟩ := List.nodup_cons.mp h'
    show ((Sum.inl x.1 : Key) :: l.map (fun x => (Sum.inl x.1 : Key))).Nodup
    refine List.nodup_cons.mpr ⟨fun m => h1 ?_, nodup_inl h2⟩
    obtain ⟨y, hy, e⟩ := List.mem_map.mp m
    exact List.mem_map.mpr ⟨y, hy, Sum.inl.inj e⟩
theorem tab_dict {P : Program} {w : World} {K : PySem.W.Frag} {h : Heap} {d : Addr} {tab : List (Int × List Int)} (KX : K.In h) (T : TabAt K d tab) :
    ∃ vs : List (Key × Value), h.DictOf (mixKind P w) d vs ∧ ∀ k ns, tab.lookup k = some ns → ∃ t, valueAt vs (Sum.inl k) = some (.ref t) ∧ TupIn K t ns := by
  obtain ⟨o, es, ep, h1, h2, h3, h4⟩ := T.at_
  obtain ⟨vs, a1, a2, a3, a4⟩ := ents_pairs (P := P) (w := w) h4
  refine ⟨vs, ⟨o, es, ep, KX _ _ h1, h2, h3, fun e he => a3 e (Array.mem_toList_iff.mpr he), a1, ?_⟩, a4⟩
  rw [a2]
  exact nodup_inl T.nd
def tTab (K : PySem.W.Frag) (tab : List (Int × List Int)) (ty : TE) : TE := fun σ H Q => ty σ H fun y H1 => ∃ k ns, y = .int k ∧ tab.lookup k = some ns ∧ ∀ t, TupIn K t ns → Q (.ref t) H1
theorem pe_tab {X : Cx} {x : Str} {d : Addr} {tab : List (Int × List Int)} {i : Expr} {ty : TE} {p pos : Pos} (hg : Gl X x) (hm : X.mg x = some (.ref d)) (T : TabAt X.K d tab) (hi : PE X i ty) (hs : NoSl i) (hd : (x == ("__debug__" : Str)) = false := by decide) :
    PE X (.Subscript (.Name x p) i pos) (tTab X.K tab ty) := by
  intro pins s σ H Q I h
  refine subD_of PySem.F.slot_dict_getitem.lookup hs (ld_glob I hg hm ?_ hd)
  refine thn (hi pins s σ H _ I h) fun iv s2 ⟨y, H2, I2, ry, k, ns, ey, hl, q2⟩ => ?_
  subst ey
  obtain ⟨vs, dd, hv⟩ := tab_dict (P := X.prog) (w := X.w) I2.kIn T
  obtain ⟨t, e1, e2⟩ := hv k ns hl
  exact ⟨dd.mapOf.typeIs, wpAny_getItem_of (kV_is (k := Sum.inl k) ry) dd.mapOf e1 ⟨.ref t, H2, I2.tok _, rfl, q2 t e2⟩⟩
end Br

end
section
set_option Elab.async false
set_option linter.all false
set_option maxRecDepth 100000
set_option maxHeartbeats 4000000
/-! The text by places, the data, the promise of each def of points 1 to 5. -/
namespace Br
open PySem PySem.Spec PyProof.Rows L2
def top (i : Nat) : Stmt := PySem.Challenge.pw_ballotrows_s01_answers.main.body.getD i (.Pass ⟨0, 0, 0, 0⟩)
abbrev sBit : Stmt := top 32
abbrev sRowOf : Stmt := top 33
abbrev sIsM : Stmt := top 39
abbrev sMarked : Stmt := top 40
abbrev sTInit : Stmt := inClass (top 41) 0
abbrev sTBegin : Stmt := inClass (top 41) 1
abbrev sTCount : Stmt := inClass (top 41) 2
abbrev sTUncount : Stmt := inClass (top 41) 3
abbrev sTStep : Stmt := inClass (top 41) 4
abbrev sTLeast : Stmt := inClass (top 41) 5
abbrev sTBetween : Stmt := inClass (top 41) 6
abbrev sTOdd : Stmt := inClass (top 41) 7
abbrev sTOne : Stmt := inClass (top 41) 8
abbrev sRInit : Stmt := inClass (top 52) 0
abbrev sRDone : Stmt := inClass (top 52) 1
abbrev sRNums : Stmt := inClass (top 52) 2
abbrev sRNum : Stmt := inClass (top 52) 3
abbrev sRRow : Stmt := inClass (top 52) 4
/-! ### objects -/
def tf (l : Addr) : List (Str × V) := putF "counts" (.ref l) []
theorem tf_counts (l : Addr) : (tf l).lookup ("counts" : Str) = some (.ref l) := by
  unfold tf
  rw [lookup_putF, if_pos rfl]
theorem tf_no (l : Addr) {m : Str} (h : ¬ m = "counts") : (tf l).lookup m = none := by
  unfold tf
  rw [lookup_putF, if_neg h]
  all_goals rfl
theorem tf_put (l l' : Addr) : putF "counts" (.ref l') (tf l) = tf l' := by
  show (if ("counts" : Str) = "counts" then [(("counts" : Str), V.ref l')] else _) = ([("counts", V.ref l')] : List (Str × V))
  rw [if_pos rfl]
/-- a Tally at p whose list of counts stands at l and holds c -/
structure TallyAt (C : Addr) (H : Hp) (p l : Addr) (c : List Int) : Prop where
  ob : ∃ dx, H p = some (.ins C dx (tf l))
  ls : H l = some (.lst (vi c))
theorem TallyAt.ne {C : Addr} {H : Hp} {p l : Addr} {c : List Int} (T : TallyAt C H p l c) : p ≠ l := by
  obtain ⟨dx, h⟩ := T.ob
  exact ne_of h T.ls (by intro z; cases z)
def rf (a : Addr) (n : Int) : List (Str × V) := putF "place" (.int n) (putF "calls" (.ref a) [])
theorem rf_place (a : Addr) (n : Int) : (rf a n).lookup ("place" : Str) = some (.int n) := by
  unfold rf
  rw [lookup_putF, if_pos rfl]
theorem rf_calls (a : Addr) (n : Int) : (rf a n).lookup ("calls" : Str) = some (.ref a) := by
  unfold rf
  rw [lookup_putF, if_neg (by decide +kernel), lookup_putF, if_pos rfl]
theorem rf_no (a : Addr) (n : Int) {m : Str} (h : ¬ m = "place") (h2 : ¬ m = "calls") : (rf a n).lookup m = none := by
  unfold rf
  rw [lookup_putF, if_neg h, lookup_putF, if_neg h2]
  all_goals rfl
theorem rf_put (a : Addr) (n n' : Int) : putF "place" (.int n') (rf a n) = rf a n' := by
  unfold rf
  show (if ("calls" : Str) = "place" then _ else _) = _
  rfl
/-- a Reader at r over the list at a, at place n -/
def ReaderAt (R : Addr) (H : Hp) (r a : Addr) (n : Int) : Prop := ∃ dx, H r = some (.ins R dx (rf a n))
/-! ### what of the text is used: C the class Tally, R the class Reader -/
structure Txt (K : PySem.W.Frag) (mg : Str → Option Value) (C R : Addr) : Prop where
  cl : Cls K C
  nCounts : NoAttr K C "counts"
  clR : Cls K R
  nCalls : NoAttr K R "calls"
  nPlace : NoAttr K R "place"
  gQ : ∃ t, mg "QUESTIONS" = some (.int 512 t)
  gB : ∃ t, mg "ROW_BYTES" = some (.int 64 t)
  gM : ∃ t, mg "MOST_COUNTED" = some (.int 65535 t)
  gD : ∃ t, mg "DONE" = some (.int 0 t)
  gR : ∃ t, mg "REFUSED" = some (.int 2 t)
  gN : ∃ t, mg "NO_SUCH_QUESTION" = some (.int (-1) t)
  enum_ : mg "enumerate" = none
  range : mg "range" = none
  len : mg "len" = none
/-! ### the promises -/
def spBit : Sp := fun vs H Q _ => ∃ n p : Nat, vs = [.int n, .int p] ∧ Q (.int ((n.testBit p).toNat : Nat)) H
def bitV (f : Nat → Bool) : List V := (List.range 512).map fun i => V.int ((f i).toNat : Nat)
def spRowOf (K : PySem.W.Frag) : Sp := fun vs H Q _ => ∃ (a : Addr) (f : Nat → Bool), vs = [.ref a] ∧ SqL K H a (bitV f) ∧ ∀ (H' : Hp) (p : Addr), H p = none → H' p = some (.lst (vi (shown (Sv04.ofBits f)))) → Same H H' → Q (.ref p) H'
def spIsM (K : PySem.W.Frag) : Sp := fun vs H Q _ => ∃ (k q : Nat) (a : Addr) (v : Sv04.Vec), vs = [.int k, .ref a, .int q] ∧ q < 512 ∧ SqL K H a (vi (shown v)) ∧ Q (.bl (Sv04.asks v k q)) H
def vn (l : List Nat) : List V := l.map fun n : Nat => V.int n
def spMarked (K : PySem.W.Frag) : Sp := fun vs H Q _ => ∃ (k : Nat) (a : Addr) (v : Sv04.Vec), vs = [.int k, .ref a] ∧ SqL K H a (vi (shown v)) ∧ ∀ (p : Addr), H p = none → Q (.ref p) (upd H p (.lst (vn (marked v k))))
section
variable {P : Program} {w : World} {K : PySem.W.Frag} {mg : Str → Option Value} {base : Heap} {C R : Addr}
theorem scBit : FnScope ["number", "place"] ["number", "place"] (defScope sBit) := ⟨rfl, rfl, rfl, by decide +kernel, rfl, by decide +kernel, by decide +kernel⟩
theorem ok_bit {f : Addr} {fd : FuncData} (F : Fun K "bit_of" "bit_of" sBit f fd) : FnOk P w K mg base CX0 1 f fd ["number", "place"] spBit := by
  refine F.ok scBit (fun vs H Q E h => ?_) (fun cdv A outer s H vs Q E hr h => ?_)
  · obtain ⟨n, p, rfl, _⟩ := h
    rfl
  · obtain ⟨n, p, rfl, k⟩ := h
    refine ⟨_, pss_one (ps_ret (pe_op op_and (pe_op op_shr (pv 0) (pv 1)) pe_int)), ?_⟩
    refine ⟨_, rfl, _, rfl, _, _, rfl, rfl, (by show (0 : Int) ≤ (p : Int); omega), _, _, rfl, rfl, ?_⟩
    show Q (.int (Builtin.bitAnd ((n : Int) / 2 ^ ((p : Int)).toNat) 1)) H
    have e : Builtin.bitAnd ((n : Int) / 2 ^ ((p : Int)).toNat) 1 = (((n.testBit p).toNat : Nat) : Int) := by
      rw [bitAnd_m1, Int.toNat_natCast]
      exact bit_int n p
    rw [e]
    exact k
theorem scRowOf : FnScope ["bits", "row", "place", "bit"] ["bits"] (defScope sRowOf) := ⟨rfl, rfl, rfl, by decide +kernel, rfl, by decide +kernel, by decide +kernel⟩
theorem ok_rowOf {f : Addr} {fd : FuncData} (F : Fun K "row_of" "row_of" sRowOf f fd) (T : Txt K mg C R) : FnOk P w K mg base CX0 1 f fd ["bits"] (spRowOf K) := by
  obtain ⟨tB, gB⟩ := T.gB
  refine F.ok scRowOf (fun vs H Q E h => ?_) (fun cdv A outer s H vs Q E hr h => ?_)
  · obtain ⟨a, f, rfl, _⟩ := h
    rfl
  · obtain ⟨a, f, rfl, hS, k⟩ := h
    refine ⟨_, pss_cons (ps_set (i := 1) scRowOf.nd rfl (Or.inl rfl) (pe_op op_rep (pe_lst (pa_cons pe_int pa_nil)) (pe_gi rfl gB)))
      (pss_cons (ps_for PassesOwn.never rfl (pi_enum rfl T.enum_ (pa_cons (pv 0) pa_nil)) (pg_tup rfl (pgs_cons (pg_name (i := 2) scRowOf.nd rfl (Or.inl rfl)) (pgs_cons (pg_name (i := 3) scRowOf.nd rfl (Or.inl rfl)) pgs_nil)))
        (pss_one (ps_augS (pv 1) (pe_op op_fdiv (pv 2) pe_int) get_list (pe_op op_shl (pv 3) (pe_op op_mod (pv 2) pe_int)) ip_add set_list)))
      (pss_one (ps_ret (pv 1)))), ?_⟩
    refine ⟨(by show 1 ≤ sizeLine; decide), fun l0 hl0 => ⟨l0, 64, [.int 0], rfl, rfl, upd_same, by decide, by decide, (by show 1 * 64 ≤ sizeLine; decide), fun l hl => ?_⟩⟩
    have s1 : Same H (upd (upd H l0 (.lst [.int 0])) l (.lst (List.replicate (64 : Int).toNat [V.int 0]).flatten)) := (Same.new hl0).trans (Same.new hl)
    have hlH : H l = none := (Same.new hl0).free hl
    have e0 : (List.replicate (64 : Int).toNat [V.int 0]).flatten = vi (rowUpto f 0) := by
      rw [rowUpto_zero]
      exact vi_rep 64 0
    have blen : (bitV f).length = 512 := by
      unfold bitV
      rw [List.length_map, List.length_range]
    refine ⟨_, rfl, a, bitV f, rfl, s1.seq hS, for_enum (K := K) (a := a) (xs := bitV f) (fun i σ H' => ∃ v2 v3 : Option V, σ = [some (.ref a), some (.ref l), v2, v3] ∧ Same H H' ∧ H' l = some (.lst (vi (rowUpto f i))))
      ⟨none, none, rfl, s1, by rw [upd_same, e0]⟩ (fun i σ H' _ ⟨_, _, _, s5, _⟩ => s5.seq hS) ?_ ?_⟩
    · rintro i y U σ H' hi hU ⟨v2, v3, rfl, s5, hl'⟩
      have hi5 : i < 512 := by
        have := (List.getElem?_eq_some_iff.mp hi).1
        rw [blen] at this
        exact this
      have ey : y = V.int ((f i).toNat : Nat) := by
        unfold bitV at hi
        rw [List.getElem?_map, List.getElem?_range hi5] at hi
        exact (Option.some.inj hi).symm
      subst ey
      have nlU : l ≠ U := ne_of_none hl' hU
      have hj : i / 8 < 64 := by omega
      have hat := rowUpto_at f i hj
      refine ⟨U, _, rfl, SqT.of upd_same, rfl, _, _, rfl, _, _, rfl, rfl, ?_⟩
      refine ⟨_, rfl, _, rfl, _, _, rfl, rfl, ⟨by decide, by decide⟩, l, _, _, i / 8, _, rfl, rfl, (by show ((i : Nat) : Int) / 8 = ((i / 8 : Nat) : Int); omega), SqL.of (by rw [upd_ne nlU]; exact hl'), vi_at hat, ?_⟩
      have em : (((i : Nat) : Int) % 8).toNat = i % 8 := by omega
      refine ⟨_, rfl, _, rfl, _, _, rfl, rfl, (by show (0 : Int) < 8; decide), _, _, rfl, rfl, ⟨by show (0 : Int) ≤ ((i : Nat) : Int) % 8; omega, by show ((i : Nat) : Int) % 8 ≤ 1000000; omega, ?_⟩, _, _, rfl, rfl, l, _, _, i / 8, rfl, rfl, (by rw [upd_ne nlU]; exact hl'), ixN_nat (by show ((i : Nat) : Int) / 8 = ((i / 8 : Nat) : Int); omega) (by rw [vi_len, rowUpto_len]; exact hj), ?_⟩
      · have := toNat_le (f i)
        show (((f i).toNat : Nat) : Int).natAbs < 2 ^ 64
        omega
      · refine ⟨_, _, rfl, fun b o e => ?_, ?_⟩
        · have nb : b ≠ l := fun q => by rw [q, hlH] at e; cases e
          rw [upd_ne nb, upd_ne (ne_of_none (s5 b o e) hU)]
          exact s5 b o e
        · rw [upd_same, rowUpto_succ f hat, vi_set, em]
    · rintro σ H' ⟨v2, v3, rfl, s5, hl'⟩
      rw [blen, rowUpto_all] at hl'
      exact ⟨_, rfl, k H' l hlH hl' s5⟩
theorem scIsM : FnScope ["k", "ballot", "question", "byte"] ["k", "ballot", "question"] (defScope sIsM) := ⟨rfl, rfl, rfl, by decide +kernel, rfl, by decide +kernel, by decide +kernel⟩
theorem ok_isM {f fB : Addr} {fd fdB : FuncData} (F : Fun K "is_marked" "is_marked" sIsM f fd) (FB : Fun K "bit_of" "bit_of" sBit fB fdB) (bB : Binds K fdB ["number", "place"] []) (mB : mg "bit_of" = some (.ref fB)) :
    FnOk P w K mg base CX0 2 f fd ["k", "ballot", "question"] (spIsM K) := by
  have GB : FnOk P w K mg base CX0 1 fB fdB ["number", "place"] spBit := ok_bit FB
  refine F.ok scIsM (fun vs H Q E h => ?_) (fun cdv A outer s H vs Q E hr h => ?_)
  · obtain ⟨k, q, a, v, rfl, _⟩ := h
    rfl
  · obtain ⟨k, q, a, v, rfl, hq, hS, kk⟩ := h
    refine ⟨_, pss_cons (ps_set (i := 3) scIsM.nd rfl (Or.inl rfl) (pe_op op_fdiv (pv 2) pe_int))
      (pss_one (ps_ret (pe_and (pe_cmpR op_eq (pe_call GB hr rfl mB FB.kp bB .nil pass0 (pa_cons (pv 0) (pa_cons (pv 3) pa_nil))) pe_int (nomark _))
        (pe_one (pe_cmpR op_eq (pe_call GB hr rfl mB FB.kp bB .nil pass0 (pa_cons (pe_ix ix_list (pv 1) (pv 3) (fun _ _ => rfl)) (pa_cons (pe_op op_mod (pv 2) pe_int) pa_nil))) pe_int (nomark _)))))), ?_⟩
    have ed : ((q : Nat) : Int) / 8 = ((q / 8 : Nat) : Int) := by omega
    have em : ((q : Nat) : Int) % 8 = ((q % 8 : Nat) : Int) := by omega
    have hat : (vi (shown v))[q / 8]? = some (.int ((Sv04.byte v (q / 8) : Nat) : Int)) := by
      refine vi_at ?_
      unfold shown
      rw [List.getElem?_map, List.getElem?_range (by omega)]
      rfl
    refine ⟨_, rfl, _, _, rfl, rfl, ⟨by decide, by decide⟩, ?_⟩
    refine ⟨_, rfl, _, rfl, k, q / 8, (by show [V.int (k : Int), V.int ((q : Int) / 8)] = _; rw [ed]), rfl, _, rfl, ?_⟩
    cases e1 : k.testBit (q / 8) with
    | false =>
      have ea : Sv04.asks v k q = false := by
        unfold Sv04.asks
        rw [e1, Bool.and_false]
      rw [ea] at kk
      exact kk
    | true =>
      refine ⟨_, rfl, _, rfl, a, _, _, _, rfl, rfl, hS, at_of ed hat, _, rfl, _, _, rfl, rfl, (by show (0 : Int) < 8; decide), Sv04.byte v (q / 8), q % 8, ?_, rfl, ?_⟩
      · show [V.int ((Sv04.byte v (q / 8) : Nat) : Int), V.int ((q : Int) % 8)] = _
        rw [em]
      · have ea : Sv04.asks v k q = (Sv04.byte v (q / 8)).testBit (q % 8) := by
          unfold Sv04.asks Sv04.bitAt
          rw [e1, Bool.and_true]
        rw [ea] at kk
        cases e2 : (Sv04.byte v (q / 8)).testBit (q % 8) with
        | false =>
          rw [e2] at kk
          exact kk
        | true =>
          rw [e2] at kk
          exact kk
theorem scMarked : FnScope ["k", "ballot", "question"] ["k", "ballot"] (defScope sMarked) := ⟨rfl, rfl, rfl, by decide +kernel, rfl, by decide +kernel, by decide +kernel⟩
theorem ok_marked {f fM : Addr} {fd fdM : FuncData} (F : Fun K "marked_questions" "marked_questions" sMarked f fd) (T : Txt K mg C R) (GM : FnOk P w K mg base CX0 2 fM fdM ["k", "ballot", "question"] (spIsM K)) (kM : PySem.W.keepIn K (.ref fM) = true)
    (bM : Binds K fdM ["k", "ballot", "question"] []) (mM : mg "is_marked" = some (.ref fM)) : FnOk P w K mg base CX0 3 f fd ["k", "ballot"] (spMarked K) := by
  obtain ⟨tQ, gQ⟩ := T.gQ
  refine F.ok scMarked (fun vs H Q E h => ?_) (fun cdv A outer s H vs Q E hr h => ?_)
  · obtain ⟨k, a, v, rfl, _⟩ := h
    rfl
  · obtain ⟨k, a, v, rfl, hS, kk⟩ := h
    refine ⟨_, pss_one (ps_ret (pe_lc (own := [("question", 2)]) rfl scMarked.nd (pi_range1 rfl T.range (pa_cons (pe_gi rfl gQ) pa_nil)) (blkOk_by (N := ["k", "ballot", "question"]) (sc := defScope sMarked) (by decide +kernel))
      (fun _ _ _ _ _ => pg_name (i := 2) scMarked.nd rfl (Or.inl rfl))
      (fun _ _ _ _ _ => pts_one (pt_val (pe_call GM hr rfl mM kM bM .nil pass0 (pa_cons (pv 0) (pa_cons (pv 1) (pa_cons (pv 2) pa_nil))))))
      (fun _ _ _ _ _ => pv 2))), ?_⟩
    refine ⟨512, rfl, by decide, by decide, fun D hD => lc_range (lo := 0) (n := 512) (fun i H' => H' = upd H D (.lst (vn (markedTo v k i)))) rfl ?_ ?_⟩
    · rintro i H' hi rfl
      refine ⟨rfl, _, rfl, _, rfl, _, rfl, k, i, a, v, ?_, hi, (Same.new hD).seq hS, _, rfl, ?_⟩
      · rw [Int.zero_add]
        rfl
      · refine ite2 (fun h => ⟨_, rfl, _, upd_same, ?_, ?_⟩) (fun h => ?_)
        · unfold vn
          rw [List.length_map]
          exact Nat.lt_of_le_of_lt (Nat.le_trans (markedTo_len v k i) (Nat.le_of_lt hi)) (by show 512 < sizeLine; decide)
        · rw [upd_upd, markedTo_succ, if_pos h]
          unfold vn
          rw [List.map_append, Int.zero_add]
          rfl
        · rw [markedTo_succ, if_neg h]
    · rintro H' rfl
      exact kk D hD
end
end Br

end
section
set_option Elab.async false
set_option linter.all false
set_option maxRecDepth 100000
set_option maxHeartbeats 4000000
/-! The methods of Tally and Reader. -/
namespace Br
open PySem PySem.Spec PyProof.Rows L2
def numOf : Sv04.Ans → Int
  | .number n => n
  | .vector _ => 0
def spTInit (C : Addr) : Sp := fun vs H Q _ => ∃ (p dx : Addr), vs = [.ref p] ∧ H p = some (.ins C dx []) ∧ ∀ (H' : Hp) (l : Addr), H l = none → TallyAt C H' p l (cnts Sv04.fresh) → But [p] H H' → Q .non H'
def spTBegin (C : Addr) : Sp := fun vs H Q _ => ∃ (p l : Addr) (c : List Int), vs = [.ref p] ∧ TallyAt C H p l c ∧ ∀ (H' : Hp) (l' : Addr), H l' = none → TallyAt C H' p l' (cnts Sv04.fresh) → But [p] H H' → Q (.int 0) H'
def spStep (C : Addr) : Sp := fun vs H Q _ => ∃ (p l q : Addr) (c : List Int) (qs : List Nat) (s last : Int), vs = [.ref p, .ref q, .int s, .int last] ∧ TallyAt C H p l c ∧ H q = some (.lst (vn qs)) ∧ qs.Nodup ∧ (∀ x ∈ qs, x < c.length) ∧ q ≠ l ∧
  ((∃ x ∈ qs, c[x]? = some last) → Q (.int 2) H) ∧
  ((∀ x ∈ qs, c[x]? ≠ some last) → ∀ H' : Hp, TallyAt C H' p l (bump c qs s) → But [l] H H' → Q (.int 0) H')
def spCount (K : PySem.W.Frag) (C : Addr) (mk : Sv04.Vec → Nat → Sv04.Call) : Sp := fun vs H Q _ => ∃ (p l b : Addr) (t : Sv04.Tally) (k : Nat) (v : Sv04.Vec), vs = [.ref p, .int k, .ref b] ∧ TallyAt C H p l (cnts t) ∧ t.length = 512 ∧ SqL K H b (vi (shown v)) ∧
  ∀ H' : Hp, TallyAt C H' p l (cnts (Sv04.does t (mk v k)).1) → But [l] H H' → Q (.int (numOf (Sv04.does t (mk v k)).2)) H'
/-- a call that answers a row of bits told by the counts -/
def spAsk (C : Addr) (ps : List V) (g : Sv04.Tally → Nat → Bool) : Sp := fun vs H Q _ => ∃ (p l : Addr) (t : Sv04.Tally), vs = .ref p :: ps ∧ TallyAt C H p l (cnts t) ∧ t.length = 512 ∧
  ∀ (H' : Hp) (r : Addr), H r = none → H' r = some (.lst (vi (shown (Sv04.ofBits (g t))))) → Same H H' → Q (.ref r) H'
def spLeast (C : Addr) : Sp := fun vs H Q E => ∃ n : Int, spAsk C [.int n] (fun t i => decide (n ≤ (Sv04.countOf t i : Int))) vs H Q E
def spBetween (C : Addr) : Sp := fun vs H Q E => ∃ lo hi : Int, spAsk C [.int lo, .int hi] (fun t i => decide (lo ≤ (Sv04.countOf t i : Int)) && decide ((Sv04.countOf t i : Int) ≤ hi)) vs H Q E
def spOdd (C : Addr) : Sp := spAsk C [] (fun t i => Sv04.countOf t i % 2 == 1)
def spOne (C : Addr) : Sp := fun vs H Q _ => ∃ (p l : Addr) (t : Sv04.Tally) (i : Int), vs = [.ref p, .int i] ∧ TallyAt C H p l (cnts t) ∧ t.length = 512 ∧ Q (.int (if 0 ≤ i ∧ i < 512 then (Sv04.countOf t i.toNat : Int) else -1)) H
theorem cnts_of {t : Sv04.Tally} (hl : t.length = 512) {i : Nat} (h : i < 512) : (vi (cnts t))[i]? = some (.int ((Sv04.countOf t i : Nat) : Int)) := vi_at (cnts_at (by omega))
theorem bitV_at (f : Nat → Bool) {i : Nat} (h : i < 512) : (bitV f)[i]? = some (.int ((f i).toNat : Nat)) := by
  unfold bitV
  rw [List.getElem?_map, List.getElem?_range h]
  rfl
theorem bitV_len (f : Nat → Bool) : (bitV f).length = 512 := by
  unfold bitV
  rw [List.length_map, List.length_range]
theorem bitV_take_succ (f : Nat → Bool) {i : Nat} (h : i < 512) : (bitV f).take (i + 1) = (bitV f).take i ++ [.int ((f i).toNat : Nat)] := by
  rw [List.take_add_one, bitV_at f h]
  rfl
theorem vn_at {l : List Nat} {i : Nat} {v : V} (h : (vn l)[i]? = some v) : ∃ n, l[i]? = some n ∧ v = .int (n : Nat) := by
  unfold vn at h
  rw [List.getElem?_map] at h
  cases e : l[i]? with
  | none =>
    rw [e] at h
    cases h
  | some n =>
    rw [e] at h
    exact ⟨n, rfl, (Option.some.inj h).symm⟩
theorem take_snoc {α : Type} {l : List α} {i : Nat} {x : α} (h : l[i]? = some x) : l.take (i + 1) = l.take i ++ [x] := by
  rw [List.take_add_one, h]
  rfl
theorem not_mem_take {l : List Nat} (hn : l.Nodup) {i x : Nat} (h : l[i]? = some x) : x ∉ l.take i := fun m => by
  obtain ⟨j, hj⟩ := List.getElem?_of_mem m
  have hlt : j < i := by
    have := (List.getElem?_eq_some_iff.mp hj).1
    rw [List.length_take] at this
    omega
  rw [List.getElem?_take_of_lt hlt] at hj
  have := nd_ix hn hj h
  omega
section
variable {P : Program} {w : World} {K : PySem.W.Frag} {mg : Str → Option Value} {base : Heap} {C R : Addr}
theorem scTInit : FnScope ["self"] ["self"] (defScope sTInit) := ⟨rfl, rfl, rfl, by decide +kernel, rfl, by decide +kernel, by decide +kernel⟩
theorem fresh_vi : (List.replicate (512 : Int).toNat [V.int 0]).flatten = vi (cnts Sv04.fresh) := by
  rw [cnts_fresh]
  exact vi_rep 512 0
theorem ok_tInit {f : Addr} {fd : FuncData} (F : Fun K "__init__" "Tally.__init__" sTInit f fd) (T : Txt K mg C R) : FnOk P w K mg base CX0 1 f fd ["self"] (spTInit C) := by
  obtain ⟨tQ, gQ⟩ := T.gQ
  refine F.ok scTInit (fun vs H Q E h => ?_) (fun cdv A outer s H vs Q E hr h => ?_)
  · obtain ⟨p, dx, rfl, _⟩ := h
    rfl
  · obtain ⟨p, dx, rfl, hp, k⟩ := h
    refine ⟨_, pss_one (ps_fld (pv 0) (pe_op op_rep (pe_lst (pa_cons pe_int pa_nil)) (pe_gi rfl gQ)) rfl), ?_⟩
    refine ⟨(by show 1 ≤ sizeLine; decide), fun l0 hl0 => ⟨l0, 512, [.int 0], rfl, rfl, upd_same, by decide, by decide, (by show 1 * 512 ≤ sizeLine; decide), fun l hl => ?_⟩⟩
    have hlH : H l = none := (Same.new hl0).free hl
    have s1 := (Same.new (o := .lst [.int 0]) hl0).trans (Same.new (o := .lst (List.replicate (512 : Int).toNat [V.int 0]).flatten) hl)
    have hp1 := s1 p _ hp
    refine ⟨_, rfl, p, C, dx, [], rfl, hp1, T.cl, T.nCounts, (by show 0 < 1000; decide), ?_⟩
    have npl : l ≠ p := fun q => by rw [q, hp] at hlH; cases hlH
    refine k _ l hlH ⟨⟨dx, upd_same⟩, by rw [upd_ne npl, upd_same, fresh_vi]⟩ fun b o e hb => ?_
    rw [upd_ne (by simpa using hb)]
    exact s1 b o e
theorem scTBegin : FnScope ["self"] ["self"] (defScope sTBegin) := ⟨rfl, rfl, rfl, by decide +kernel, rfl, by decide +kernel, by decide +kernel⟩
theorem ok_tBegin {f : Addr} {fd : FuncData} (F : Fun K "begin" "Tally.begin" sTBegin f fd) (T : Txt K mg C R) : FnOk P w K mg base CX0 1 f fd ["self"] (spTBegin C) := by
  obtain ⟨tQ, gQ⟩ := T.gQ
  obtain ⟨tD, gD⟩ := T.gD
  refine F.ok scTBegin (fun vs H Q E h => ?_) (fun cdv A outer s H vs Q E hr h => ?_)
  · obtain ⟨p, l, c, rfl, _⟩ := h
    rfl
  · obtain ⟨p, l1, c, rfl, TA, k⟩ := h
    obtain ⟨dx, hp⟩ := TA.ob
    refine ⟨_, pss_cons (ps_fld (pv 0) (pe_op op_rep (pe_lst (pa_cons pe_int pa_nil)) (pe_gi rfl gQ)) rfl) (pss_one (ps_ret (pe_gi rfl gD))), ?_⟩
    refine ⟨(by show 1 ≤ sizeLine; decide), fun l0 hl0 => ⟨l0, 512, [.int 0], rfl, rfl, upd_same, by decide, by decide, (by show 1 * 512 ≤ sizeLine; decide), fun l hl => ?_⟩⟩
    have hlH : H l = none := (Same.new hl0).free hl
    have s1 := (Same.new (o := .lst [.int 0]) hl0).trans (Same.new (o := .lst (List.replicate (512 : Int).toNat [V.int 0]).flatten) hl)
    have hp1 := s1 p _ hp
    refine ⟨_, rfl, p, C, dx, _, rfl, hp1, T.cl, T.nCounts, (by show 1 < 1000; decide), ?_⟩
    have npl : l ≠ p := fun q => by rw [q, hp] at hlH; cases hlH
    refine k _ l hlH ⟨⟨dx, Eq.trans upd_same (congrArg (fun q => some (HO.ins C dx q)) (tf_put l1 l))⟩, by rw [upd_ne npl, upd_same, fresh_vi]⟩ fun b o e hb => ?_
    rw [upd_ne (by simpa using hb)]
    exact s1 b o e
theorem scTStep : FnScope ["self", "questions", "step", "last", "question"] ["self", "questions", "step", "last"] (defScope sTStep) := ⟨rfl, rfl, rfl, by decide +kernel, rfl, by decide +kernel, by decide +kernel⟩
theorem ok_tStep {f : Addr} {fd : FuncData} (F : Fun K "step_all" "Tally.step_all" sTStep f fd) (T : Txt K mg C R) : FnOk P w K mg base CX0 1 f fd ["self", "questions", "step", "last"] (spStep C) := by
  obtain ⟨tR, gR⟩ := T.gR
  obtain ⟨tD, gD⟩ := T.gD
  refine F.ok scTStep (fun vs H Q E h => ?_) (fun cdv A outer s H vs Q E hr h => ?_)
  · obtain ⟨p, l, q, c, qs, s, last, rfl, _⟩ := h
    rfl
  · obtain ⟨p, l, q, c, qs, st, last, rfl, TA, hq, hn, hb, hql, k1, k2⟩ := h
    obtain ⟨dx, hp⟩ := TA.ob
    refine ⟨_, pss_cons (ps_for PassesOwn.never rfl (pi_list (pv 1)) (pg_name (i := 4) scTStep.nd rfl (Or.inl rfl))
        (pss_one (ps_if (pt_cmpR op_eq (pe_ix ix_list (pe_fld (pv 0) rfl) (pv 4) (fun _ _ => rfl)) (pv 3) (nomark _)) (pss_one (ps_ret (pe_gi rfl gR))) pss_nil)))
      (pss_cons (ps_for PassesOwn.never rfl (pi_list (pv 1)) (pg_name (i := 4) scTStep.nd rfl (Or.inl rfl))
        (pss_one (ps_augS (pe_fld (pv 0) rfl) (pv 4) get_list (pv 2) ip_add set_list)))
      (pss_one (ps_ret (pe_gi rfl gD)))), ?_⟩
    refine ⟨_, rfl, q, rfl, ⟨_, SqL.of hq⟩, for_list (K := K) (a := q) (xs := vn qs) (fun i σ H' => ∃ v : Option V, σ = [some (.ref p), some (.ref q), some (.int st), some (.int last), v] ∧ H = H' ∧ ∀ x ∈ qs.take i, c[x]? ≠ some last)
      ⟨none, rfl, rfl, fun x hx => by simp at hx⟩ (fun i σ H' _ ⟨_, _, e, _⟩ => by rw [← e]; exact SqL.of hq) ?_ ?_⟩
    · rintro i y σ H' hi ⟨v, rfl, rfl, hno⟩
      obtain ⟨x, hx, rfl⟩ := vn_at hi
      have hxm : x ∈ qs := List.mem_of_getElem? hx
      have hlt := hb x hxm
      have hcx : c[x]? = some c[x] := List.getElem?_eq_getElem hlt
      refine ⟨_, rfl, p, C, dx, _, _, rfl, hp, T.cl, T.nCounts, tf_counts _, _, rfl, l, _, _, _, rfl, rfl, SqL.of TA.ls, atI_nat (vi_at hcx), _, rfl, rfl, _, rfl, ?_⟩
      refine ite2 (fun h => ?_) (fun h => ?_)
      · have e : V.int c[x] = V.int last := of_decide_eq_true h
        have e2 : c[x] = last := V.int.inj e
        exact k1 ⟨x, hxm, by rw [hcx, e2]⟩
      · refine ⟨_, rfl, rfl, fun x' hx' => ?_⟩
        rw [take_snoc hx] at hx'
        rcases List.mem_append.mp hx' with z | z
        · exact hno x' z
        · have z' := List.mem_singleton.mp z
          subst z'
          intro e
          rw [hcx] at e
          exact h (decide_eq_true (congrArg V.int (Option.some.inj e)))
    · rintro σ H' ⟨v, rfl, rfl, hno⟩
      have hno' : ∀ x ∈ qs, c[x]? ≠ some last := fun x hx => hno x (by
        have e : (vn qs).length = qs.length := by unfold vn; rw [List.length_map]
        rw [e, List.take_length]
        exact hx)
      refine ⟨_, rfl, q, rfl, ⟨_, SqL.of hq⟩, for_list (K := K) (a := q) (xs := vn qs) (fun i σ H' => ∃ v : Option V, σ = [some (.ref p), some (.ref q), some (.int st), some (.int last), v] ∧ TallyAt C H' p l (bump c (qs.take i) st) ∧ But [l] H H')
        ⟨v, rfl, by rw [List.take_zero, bump_nil]; exact TA, But.refl⟩ (fun i σ H' _ ⟨_, _, _, B⟩ => SqL.of (B.at1 hq hql)) ?_ ?_⟩
      · rintro i y σ H' hi ⟨v, rfl, TB, B⟩
        obtain ⟨x, hx, rfl⟩ := vn_at hi
        have hxm : x ∈ qs := List.mem_of_getElem? hx
        have hlt : x < (bump c (qs.take i) st).length := by
          rw [bump_len]
          exact hb x hxm
        have hcx := List.getElem?_eq_getElem hlt
        obtain ⟨dy, hp'⟩ := TB.ob
        refine ⟨_, rfl, p, C, dy, _, _, rfl, hp', T.cl, T.nCounts, tf_counts _, _, rfl, l, _, _, x, _, rfl, rfl, rfl, SqL.of TB.ls, vi_at hcx, _, rfl, _, _, rfl, rfl, l, _, _, x, rfl, rfl, TB.ls, ixN_nat rfl (by rw [vi_len]; exact hlt), ?_⟩
        refine ⟨_, rfl, ⟨⟨dy, by rw [upd_ne TB.ne]; exact hp'⟩, ?_⟩, fun b o e hbm => ?_⟩
        · rw [upd_same, take_snoc hx, bump_snoc st (not_mem_take hn hx) hcx, vi_set]
        · have nb : b ≠ l := by simpa using hbm
          rw [upd_ne nb]
          exact B b o e hbm
      · rintro σ H' ⟨v, rfl, TB, B⟩
        have e : (vn qs).length = qs.length := by unfold vn; rw [List.length_map]
        rw [e, List.take_length] at TB
        exact k2 hno' H' TB B
theorem scTCount : FnScope ["self", "k", "ballot"] ["self", "k", "ballot"] (defScope sTCount) := ⟨rfl, rfl, rfl, by decide +kernel, rfl, by decide +kernel, by decide +kernel⟩
theorem cnts_look {t : Sv04.Tally} (hl : t.length = 512) {x : Nat} (hx : x < 512) (n : Nat) : (cnts t)[x]? = some ((n : Nat) : Int) ↔ Sv04.countOf t x = n := by
  rw [cnts_at (by omega)]
  constructor
  · intro e
    have := Option.some.inj e
    omega
  · intro e
    rw [e]
theorem ok_tCount {f fS fM : Addr} {fd fdS fdM : FuncData} (F : Fun K "count" "Tally.count" sTCount f fd) (T : Txt K mg C R) (GS : FnOk P w K mg base CX0 1 fS fdS ["self", "questions", "step", "last"] (spStep C)) (mS : Meth K C "step_all" fS) (bS : Binds K fdS ["self", "questions", "step", "last"] [])
    (GM : FnOk P w K mg base CX0 3 fM fdM ["k", "ballot"] (spMarked K)) (kM : PySem.W.keepIn K (.ref fM) = true) (bM : Binds K fdM ["k", "ballot"] []) (mM : mg "marked_questions" = some (.ref fM)) :
    FnOk P w K mg base CX0 4 f fd ["self", "k", "ballot"] (spCount K C fun v k => .count v k) := by
  obtain ⟨tM, gM⟩ := T.gM
  refine F.ok scTCount (fun vs H Q E h => ?_) (fun cdv A outer s H vs Q E hr h => ?_)
  · obtain ⟨p, l, b, t, k, v, rfl, _⟩ := h
    rfl
  · obtain ⟨p, l, b, t, k, v, rfl, TA, hl, hS, kk⟩ := h
    obtain ⟨dx, hp⟩ := TA.ob
    have hr1 : Room 1 _ := hr.mono (by decide)
    refine ⟨_, pss_one (ps_ret (pe_meth (pv 0) T.cl mS GS hr1 bS .nil pass0 (pa_cons (pe_call GM hr rfl mM kM bM .nil pass0 (pa_cons (pv 1) (pa_cons (pv 2) pa_nil))) (pa_cons pe_int (pa_cons (pe_gi rfl gM) pa_nil))))), ?_⟩
    refine ⟨_, rfl, p, dx, _, rfl, hp, tf_no _ (by decide +kernel), _, rfl, _, rfl, k, b, v, rfl, hS, fun q hq => ?_⟩
    have s1 : Same H (upd H q (.lst (vn (marked v k)))) := Same.new hq
    have nql : q ≠ l := fun z => by rw [z, TA.ls] at hq; cases hq
    refine ⟨p, l, q, cnts t, marked v k, 1, 65535, rfl, ⟨⟨dx, s1 _ _ hp⟩, s1 _ _ TA.ls⟩, upd_same, marked_nodup v k, fun x hx => by rw [cnts_len, hl]; exact (marked_mem.mp hx).1, nql, fun ⟨x, hx, e⟩ => ?_, fun hno H' TB B => ?_⟩
    · have hs : Sv04.stands t v k Sv04.MOST = true := (stands_iff hl v k _).mpr ⟨x, hx, (cnts_look hl (marked_mem.mp hx).1 65535).mp e⟩
      have e2 : Sv04.does t (.count v k) = (t, .number 2) := by
        show (if Sv04.stands t v k Sv04.MOST = true then _ else _) = _
        rw [if_pos hs]
      rw [e2] at kk
      exact kk _ ⟨⟨dx, s1 _ _ hp⟩, s1 _ _ TA.ls⟩ (But.of_same s1)
    · have hs : ¬ Sv04.stands t v k Sv04.MOST = true := fun z => by
        obtain ⟨x, hx, e⟩ := (stands_iff hl v k _).mp z
        exact hno x hx ((cnts_look hl (marked_mem.mp hx).1 65535).mpr e)
      have e2 : Sv04.does t (.count v k) = (Sv04.changed t v k (· + 1), .number 0) := by
        show (if Sv04.stands t v k Sv04.MOST = true then _ else _) = _
        rw [if_neg hs]
      rw [e2] at kk
      rw [bump_changed hl v k (· + 1) 1 (fun q _ => by push_cast; rfl)] at TB
      exact kk H' TB fun b o e hb => B b o (s1 b o e) hb
theorem scTUncount : FnScope ["self", "k", "ballot"] ["self", "k", "ballot"] (defScope sTUncount) := ⟨rfl, rfl, rfl, by decide +kernel, rfl, by decide +kernel, by decide +kernel⟩
theorem ok_tUncount {f fS fM : Addr} {fd fdS fdM : FuncData} (F : Fun K "uncount" "Tally.uncount" sTUncount f fd) (T : Txt K mg C R) (GS : FnOk P w K mg base CX0 1 fS fdS ["self", "questions", "step", "last"] (spStep C)) (mS : Meth K C "step_all" fS) (bS : Binds K fdS ["self", "questions", "step", "last"] [])
    (GM : FnOk P w K mg base CX0 3 fM fdM ["k", "ballot"] (spMarked K)) (kM : PySem.W.keepIn K (.ref fM) = true) (bM : Binds K fdM ["k", "ballot"] []) (mM : mg "marked_questions" = some (.ref fM)) :
    FnOk P w K mg base CX0 4 f fd ["self", "k", "ballot"] (spCount K C fun v k => .uncount v k) := by
  refine F.ok scTUncount (fun vs H Q E h => ?_) (fun cdv A outer s H vs Q E hr h => ?_)
  · obtain ⟨p, l, b, t, k, v, rfl, _⟩ := h
    rfl
  · obtain ⟨p, l, b, t, k, v, rfl, TA, hl, hS, kk⟩ := h
    obtain ⟨dx, hp⟩ := TA.ob
    have hr1 : Room 1 _ := hr.mono (by decide)
    refine ⟨_, pss_one (ps_ret (pe_meth (pv 0) T.cl mS GS hr1 bS .nil pass0 (pa_cons (pe_call GM hr rfl mM kM bM .nil pass0 (pa_cons (pv 1) (pa_cons (pv 2) pa_nil))) (pa_cons (pe_un un_neg pe_int) (pa_cons pe_int pa_nil))))), ?_⟩
    refine ⟨_, rfl, p, dx, _, rfl, hp, tf_no _ (by decide +kernel), _, rfl, _, rfl, k, b, v, rfl, hS, fun q hq => ⟨_, rfl, ?_⟩⟩
    have s1 : Same H (upd H q (.lst (vn (marked v k)))) := Same.new hq
    have nql : q ≠ l := fun z => by rw [z, TA.ls] at hq; cases hq
    refine ⟨p, l, q, cnts t, marked v k, -1, 0, rfl, ⟨⟨dx, s1 _ _ hp⟩, s1 _ _ TA.ls⟩, upd_same, marked_nodup v k, fun x hx => by rw [cnts_len, hl]; exact (marked_mem.mp hx).1, nql, fun ⟨x, hx, e⟩ => ?_, fun hno H' TB B => ?_⟩
    · have hs : Sv04.stands t v k 0 = true := (stands_iff hl v k _).mpr ⟨x, hx, (cnts_look hl (marked_mem.mp hx).1 0).mp e⟩
      have e2 : Sv04.does t (.uncount v k) = (t, .number 2) := by
        show (if Sv04.stands t v k 0 = true then _ else _) = _
        rw [if_pos hs]
      rw [e2] at kk
      exact kk _ ⟨⟨dx, s1 _ _ hp⟩, s1 _ _ TA.ls⟩ (But.of_same s1)
    · have hs : ¬ Sv04.stands t v k 0 = true := fun z => by
        obtain ⟨x, hx, e⟩ := (stands_iff hl v k _).mp z
        exact hno x hx ((cnts_look hl (marked_mem.mp hx).1 0).mpr e)
      have e2 : Sv04.does t (.uncount v k) = (Sv04.changed t v k (· - 1), .number 0) := by
        show (if Sv04.stands t v k 0 = true then _ else _) = _
        rw [if_neg hs]
      rw [e2] at kk
      rw [bump_changed hl v k (· - 1) (-1) (fun q hq => by
        have h0 : Sv04.countOf t q ≠ 0 := fun z => hno q hq ((cnts_look hl (marked_mem.mp hq).1 0).mpr z)
        show ((Sv04.countOf t q - 1 : Nat) : Int) = ((Sv04.countOf t q : Nat) : Int) + -1
        omega)] at TB
      exact kk H' TB fun b o e hb => B b o (s1 b o e) hb
/-! ### rows told by the counts -/
/-- the bits of a row, item by item over the counts -/
theorem lc_bits {H : Hp} {l D : Addr} {t : Sv04.Tally} (hl : t.length = 512) (hls : H l = some (.lst (vi (cnts t)))) (hD : H D = none) (g : Nat → Bool) {j : Nat} {te : TE} {σ : L2.St} {Qd : Hp → Prop} (hw : ∀ x : V, wipe ((wipe σ [j]).set j (some x)) [j] = wipe σ [j])
    (hs : ∀ (i : Nat) (H' : Hp) (Q : VK), i < 512 → Q (.int ((g i).toNat : Nat)) H' → te ((wipe σ [j]).set j (some (.int ((Sv04.countOf t i : Nat) : Int)))) H' Q) (hd : Qd (upd H D (.lst (bitV g)))) :
    ∃ W : Nat → Nat → Hp → Prop, (∃ m, W 0 m (upd H D (.lst []))) ∧ ∀ i m H, W i m H →
      ((Itl K l).stop i H ∧ Qd H) ∨ ((Itl K l).go i H ∧ ∃ Nx : Hp → Prop, (∀ H', Nx H' → ∃ m', m' < m ∧ W (i + 1) m' H') ∧ ∀ x H', (Itl K l).yld i H x H' → gName j x (wipe σ [j]) H' fun σ2 H2 => wipe σ2 [j] = wipe σ [j] ∧ tYes σ2 H2 fun b H3 =>
        if b = true then te σ2 H3 fun y H4 => ∃ acc, H4 D = some (.lst acc) ∧ acc.length < sizeLine ∧ Nx (upd H4 D (.lst (acc ++ [y]))) else Nx H3) := by
  have nlD : l ≠ D := ne_of_none hls hD
  refine lc_list (K := K) (a := l) (xs := vi (cnts t)) (fun i H' => H' = upd H D (.lst ((bitV g).take i))) rfl (fun i H' _ e => by rw [e]; exact SqL.of (by rw [upd_ne nlD]; exact hls)) ?_ ?_
  · rintro i x H' hi rfl
    have hi5 : i < 512 := by
      have := (List.getElem?_eq_some_iff.mp hi).1
      rw [vi_len, cnts_len, hl] at this
      exact this
    rw [cnts_of hl hi5] at hi
    have ex := (Option.some.inj hi).symm
    subst ex
    refine ⟨hw _, hs i _ (fun y H4 => ∃ acc, H4 D = some (.lst acc) ∧ acc.length < sizeLine ∧ upd H4 D (.lst (acc ++ [y])) = upd H D (.lst ((bitV g).take (i + 1)))) hi5 ⟨_, upd_same, ?_, ?_⟩⟩
    · rw [List.length_take]
      exact Nat.lt_of_le_of_lt (Nat.min_le_right _ _) (by rw [bitV_len]; show 512 < sizeLine; decide)
    · rw [upd_upd, bitV_take_succ g hi5]
  · rintro H' rfl
    have e : (bitV g).take (vi (cnts t)).length = bitV g := List.take_of_length_le (by rw [bitV_len, vi_len, cnts_len, hl]; exact Nat.le_refl _)
    rw [e]
    exact hd
/-- what stands behind such a list: row_of of it -/
theorem row_bits {H : Hp} {D : Addr} {g : Nat → Bool} {Q : VK} {E : XK} (hD : H D = none) (kk : ∀ (H' : Hp) (r : Addr), H r = none → H' r = some (.lst (vi (shown (Sv04.ofBits g)))) → Same H H' → Q (.ref r) H') :
    spRowOf K [.ref D] (upd H D (.lst (bitV g))) Q E := by
  have s1 : Same H (upd H D (.lst (bitV g))) := Same.new hD
  exact ⟨D, g, rfl, SqL.of upd_same, fun H' r hr0 hr1 s2 => kk H' r (s1.free hr0) hr1 (s1.trans s2)⟩
theorem scTLeast : FnScope ["self", "t", "votes"] ["self", "t"] (defScope sTLeast) := ⟨rfl, rfl, rfl, by decide +kernel, rfl, by decide +kernel, by decide +kernel⟩
theorem ok_tLeast {f fR : Addr} {fd fdR : FuncData} (F : Fun K "least" "Tally.least" sTLeast f fd) (T : Txt K mg C R) (GR : FnOk P w K mg base CX0 1 fR fdR ["bits"] (spRowOf K)) (kR : PySem.W.keepIn K (.ref fR) = true) (bR : Binds K fdR ["bits"] []) (mR : mg "row_of" = some (.ref fR)) :
    FnOk P w K mg base CX0 2 f fd ["self", "t"] (spLeast C) := by
  refine F.ok scTLeast (fun vs H Q E h => ?_) (fun cdv A outer s H vs Q E hr h => ?_)
  · obtain ⟨n, p, l, t, rfl, _⟩ := h
    rfl
  · obtain ⟨n, p, l, t, rfl, TA, hl, kk⟩ := h
    obtain ⟨dx, hp⟩ := TA.ob
    refine ⟨_, pss_one (ps_ret (pe_call GR hr rfl mR kR bR .nil pass0 (pa_cons (pe_lc (own := [("votes", 2)]) rfl scTLeast.nd (pi_list (pe_fld (pv 0) rfl)) (blkOk_by (N := ["self", "t", "votes"]) (sc := defScope sTLeast) (by decide +kernel))
      (fun _ _ _ _ _ => pg_name (i := 2) scTLeast.nd rfl (Or.inl rfl)) (fun _ _ _ _ _ => pts_nil)
      (fun _ _ _ _ _ => pe_ifExp (pt_cmpR op_ge (pv 2) (pv 1) (nomark _)) pe_int pe_int)) pa_nil))), ?_⟩
    refine ⟨_, rfl, p, C, dx, _, _, rfl, hp, T.cl, T.nCounts, tf_counts _, l, rfl, ⟨_, SqL.of TA.ls⟩, fun D hD => lc_bits hl TA.ls hD _ (fun _ => rfl) (fun i H' Q' hi q => ?_) (row_bits (E := E0) hD kk)⟩
    dsimp only at q
    refine ⟨_, rfl, _, rfl, _, _, rfl, rfl, _, rfl, ite2 (fun h => ?_) (fun h => ?_)⟩
    · rw [show decide (n ≤ (Sv04.countOf t i : Int)) = true from h] at q
      exact q
    · rw [show decide (n ≤ (Sv04.countOf t i : Int)) = false from Bool.eq_false_iff.mpr h] at q
      exact q
theorem scTBetween : FnScope ["self", "lo", "hi", "votes"] ["self", "lo", "hi"] (defScope sTBetween) := ⟨rfl, rfl, rfl, by decide +kernel, rfl, by decide +kernel, by decide +kernel⟩
theorem ok_tBetween {f fR : Addr} {fd fdR : FuncData} (F : Fun K "between" "Tally.between" sTBetween f fd) (T : Txt K mg C R) (GR : FnOk P w K mg base CX0 1 fR fdR ["bits"] (spRowOf K)) (kR : PySem.W.keepIn K (.ref fR) = true) (bR : Binds K fdR ["bits"] []) (mR : mg "row_of" = some (.ref fR)) :
    FnOk P w K mg base CX0 2 f fd ["self", "lo", "hi"] (spBetween C) := by
  refine F.ok scTBetween (fun vs H Q E h => ?_) (fun cdv A outer s H vs Q E hr h => ?_)
  · obtain ⟨lo, hi, p, l, t, rfl, _⟩ := h
    rfl
  · obtain ⟨lo, hi, p, l, t, rfl, TA, hl, kk⟩ := h
    obtain ⟨dx, hp⟩ := TA.ob
    refine ⟨_, pss_one (ps_ret (pe_call GR hr rfl mR kR bR .nil pass0 (pa_cons (pe_lc (own := [("votes", 3)]) rfl scTBetween.nd (pi_list (pe_fld (pv 0) rfl)) (blkOk_by (N := ["self", "lo", "hi", "votes"]) (sc := defScope sTBetween) (by decide +kernel))
      (fun _ _ _ _ _ => pg_name (i := 3) scTBetween.nd rfl (Or.inl rfl)) (fun _ _ _ _ _ => pts_nil)
      (fun _ _ _ _ _ => pe_ifExp (PW.pt (pw_and (pt_cmpR op_le (pv 1) (pv 3) (nomark _)) (pw_and1 (pt_cmpR op_le (pv 3) (pv 2) (nomark _))))) pe_int pe_int)) pa_nil))), ?_⟩
    refine ⟨_, rfl, p, C, dx, _, _, rfl, hp, T.cl, T.nCounts, tf_counts _, l, rfl, ⟨_, SqL.of TA.ls⟩, fun D hD => lc_bits hl TA.ls hD _ (fun _ => rfl) (fun i H' Q' hi' q => ?_) (row_bits (E := E0) hD kk)⟩
    dsimp only at q
    refine ⟨_, rfl, _, rfl, _, _, rfl, rfl, _, rfl, ite2 (fun h => ?_) (fun h => ?_)⟩
    · refine ⟨_, rfl, _, rfl, _, _, rfl, rfl, _, rfl, ite2 (fun h2 => ?_) (fun h2 => ?_)⟩
      · rw [show decide (lo ≤ (Sv04.countOf t i : Int)) = true from h, show decide ((Sv04.countOf t i : Int) ≤ hi) = true from h2] at q
        exact q
      · rw [show decide ((Sv04.countOf t i : Int) ≤ hi) = false from Bool.eq_false_iff.mpr h2, Bool.and_false] at q
        exact q
    · rw [show decide (lo ≤ (Sv04.countOf t i : Int)) = false from Bool.eq_false_iff.mpr h, Bool.false_and] at q
      exact iteF q
theorem scTOdd : FnScope ["self", "votes"] ["self"] (defScope sTOdd) := ⟨rfl, rfl, rfl, by decide +kernel, rfl, by decide +kernel, by decide +kernel⟩
theorem ok_tOdd {f fR : Addr} {fd fdR : FuncData} (F : Fun K "odd" "Tally.odd" sTOdd f fd) (T : Txt K mg C R) (GR : FnOk P w K mg base CX0 1 fR fdR ["bits"] (spRowOf K)) (kR : PySem.W.keepIn K (.ref fR) = true) (bR : Binds K fdR ["bits"] []) (mR : mg "row_of" = some (.ref fR)) :
    FnOk P w K mg base CX0 2 f fd ["self"] (spOdd C) := by
  refine F.ok scTOdd (fun vs H Q E h => ?_) (fun cdv A outer s H vs Q E hr h => ?_)
  · obtain ⟨p, l, t, rfl, _⟩ := h
    rfl
  · obtain ⟨p, l, t, rfl, TA, hl, kk⟩ := h
    obtain ⟨dx, hp⟩ := TA.ob
    refine ⟨_, pss_one (ps_ret (pe_call GR hr rfl mR kR bR .nil pass0 (pa_cons (pe_lc (own := [("votes", 1)]) rfl scTOdd.nd (pi_list (pe_fld (pv 0) rfl)) (blkOk_by (N := ["self", "votes"]) (sc := defScope sTOdd) (by decide +kernel))
      (fun _ _ _ _ _ => pg_name (i := 1) scTOdd.nd rfl (Or.inl rfl)) (fun _ _ _ _ _ => pts_nil)
      (fun _ _ _ _ _ => pe_op op_mod (pv 1) pe_int)) pa_nil))), ?_⟩
    refine ⟨_, rfl, p, C, dx, _, _, rfl, hp, T.cl, T.nCounts, tf_counts _, l, rfl, ⟨_, SqL.of TA.ls⟩, fun D hD => lc_bits hl TA.ls hD _ (fun _ => rfl) (fun i H' Q' hi' q => ?_) (row_bits (E := E0) hD kk)⟩
    dsimp only at q
    refine ⟨_, rfl, _, _, rfl, rfl, (by show (0 : Int) < 2; decide), ?_⟩
    have e : (((Sv04.countOf t i % 2 == 1).toNat : Nat) : Int) = ((Sv04.countOf t i : Nat) : Int) % 2 := by
      rcases Nat.mod_two_eq_zero_or_one (Sv04.countOf t i) with h | h
      · rw [h]
        show (0 : Int) = _
        omega
      · rw [h]
        show (1 : Int) = _
        omega
    rw [e] at q
    exact q
theorem scTOne : FnScope ["self", "question"] ["self", "question"] (defScope sTOne) := ⟨rfl, rfl, rfl, by decide +kernel, rfl, by decide +kernel, by decide +kernel⟩
theorem ok_tOne {f : Addr} {fd : FuncData} (F : Fun K "one" "Tally.one" sTOne f fd) (T : Txt K mg C R) : FnOk P w K mg base CX0 1 f fd ["self", "question"] (spOne C) := by
  obtain ⟨tQ, gQ⟩ := T.gQ
  obtain ⟨tN, gN⟩ := T.gN
  refine F.ok scTOne (fun vs H Q E h => ?_) (fun cdv A outer s H vs Q E hr h => ?_)
  · obtain ⟨p, l, t, i, rfl, _⟩ := h
    rfl
  · obtain ⟨p, l, t, i, rfl, TA, hl, kk⟩ := h
    obtain ⟨dx, hp⟩ := TA.ob
    refine ⟨_, pss_cons (ps_if (PW.pt (pw_or (pt_cmpR op_lt (pv 1) pe_int (nomark _)) (pw_or1 (pt_cmpR op_ge (pv 1) (pe_gi rfl gQ) (nomark _))))) (pss_one (ps_ret (pe_gi rfl gN))) pss_nil)
      (pss_one (ps_ret (pe_ix ix_list (pe_fld (pv 0) rfl) (pv 1) (fun _ _ => rfl)))), ?_⟩
    refine ⟨_, rfl, _, _, rfl, rfl, _, rfl, ite2 (fun h => ?_) (fun h => ?_)⟩
    · have h' : i < 0 := of_decide_eq_true h
      rw [if_neg (by omega)] at kk
      exact iteT kk
    · have h' : ¬ i < 0 := fun z => h (decide_eq_true z)
      refine ⟨_, rfl, _, _, rfl, rfl, _, rfl, ite2 (fun h2 => ?_) (fun h2 => ?_)⟩
      · have h2' : (512 : Int) ≤ i := of_decide_eq_true h2
        rw [if_neg (by omega)] at kk
        exact kk
      · have h2' : ¬ (512 : Int) ≤ i := fun z => h2 (decide_eq_true z)
        rw [if_pos (by omega)] at kk
        refine ⟨_, rfl, p, C, dx, _, _, rfl, hp, T.cl, T.nCounts, tf_counts _, _, rfl, l, _, _, _, rfl, rfl, SqL.of TA.ls, at_of (j := i.toNat) (by omega) (cnts_of hl (by omega)), kk⟩
end
end Br

end
section
set_option Elab.async false
set_option linter.all false
set_option maxRecDepth 100000
set_option maxHeartbeats 4000000
/-! The reader. -/
namespace Br
open PySem PySem.Spec PyProof.Rows L2
/-- the request's list: frozen, or one of the text's own -/
def ArgAt (K : PySem.W.Frag) (H : Hp) (a : Addr) (xs : List V) : Prop := (∃ o, H a = some (.frz o (.lst xs))) ∨
  ∃ (o : Obj) (its : Array Value) (n : Nat), K.lookup a = some o ∧ o.cls = .type "list" ∧ o.dict = none ∧ o.data = .seq its n ∧ its.size ≤ sizeLine ∧ Vals xs its.toList
theorem ArgAt.sq {K : PySem.W.Frag} {H : Hp} {a : Addr} {xs : List V} (h : ArgAt K H a xs) : SqL K H a xs := by
  rcases h with h | h
  · exact .inl (.inr h)
  · exact .inr h
theorem ArgAt.but {K : PySem.W.Frag} {H H' : Hp} {a : Addr} {xs : List V} {ys : List Addr} (h : ArgAt K H a xs) (e : But ys H H') (n : ∀ y ∈ ys, ∀ o u, H y ≠ some (.frz o u)) : ArgAt K H' a xs := by
  rcases h with ⟨o, h⟩ | h
  · exact .inl ⟨o, e _ _ h fun m => n a m _ _ h⟩
  · exact .inr h
theorem ArgAt.same {K : PySem.W.Frag} {H H' : Hp} {a : Addr} {xs : List V} (h : ArgAt K H a xs) (e : Same H H') : ArgAt K H' a xs := by
  rcases h with ⟨o, h⟩ | h
  · exact .inl ⟨o, e _ _ h⟩
  · exact .inr h
theorem ArgAt.of {K : PySem.W.Frag} {H : Hp} {a : Addr} {xs : List V} (hO : OnlyF H) (h : SqL K H a xs) : ArgAt K H a xs := by
  rcases h with (h | h) | h
  · rcases hO a with z | ⟨o, u, z⟩
    · rw [h] at z
      cases z
    · rw [h] at z
      cases z
  · exact .inl h
  · exact .inr h
theorem ReaderAt.nfrz {R : Addr} {H : Hp} {r a : Addr} {n : Int} (h : ReaderAt R H r a n) : ∀ o u, H r ≠ some (.frz o u) := fun o u e => by
  obtain ⟨dx, h⟩ := h
  rw [h] at e
  cases e
theorem ArgAt.read {K : PySem.W.Frag} {R : Addr} {H H' : Hp} {r a : Addr} {n : Int} {xs : List V} (h : ArgAt K H a xs) (e : But [r] H H') (hr : ReaderAt R H r a n) : ArgAt K H' a xs :=
  h.but e fun y hy => by
    have z : y = r := by simpa using hy
    rw [z]
    exact hr.nfrz
/-! ### the promises -/
def spRInit (R : Addr) : Sp := fun vs H Q _ => ∃ (r a dx : Addr), vs = [.ref r, .ref a] ∧ H r = some (.ins R dx []) ∧ ∀ H' : Hp, ReaderAt R H' r a 0 → But [r] H H' → Q .non H'
def spRDone (K : PySem.W.Frag) (R : Addr) : Sp := fun vs H Q _ => ∃ (r a : Addr) (n : Nat) (ns : List Int), vs = [.ref r] ∧ ReaderAt R H r a n ∧ ArgAt K H a (vi ns) ∧ Q (.bl (decide ((ns.length : Int) ≤ (n : Int)))) H
def spRNums (K : PySem.W.Frag) (R : Addr) : Sp := fun vs H Q _ => ∃ (r a : Addr) (n m : Nat) (ns : List Int), vs = [.ref r, .int m] ∧ ReaderAt R H r a n ∧ ArgAt K H a (vi ns) ∧ n + m ≤ ns.length ∧
  ∀ (H' : Hp) (p : Addr), H p = none → ReaderAt R H' r a ((n + m : Nat) : Int) → H' p = some (.lst (vi ((ns.drop n).take m))) → But [r] H H' → Q (.ref p) H'
def spRNum (K : PySem.W.Frag) (R : Addr) : Sp := fun vs H Q _ => ∃ (r a : Addr) (n : Nat) (z : Int) (ns : List Int), vs = [.ref r] ∧ ReaderAt R H r a n ∧ ArgAt K H a (vi ns) ∧ ns[n]? = some z ∧
  ∀ (H' : Hp), ReaderAt R H' r a ((n + 1 : Nat) : Int) → But [r] H H' → Q (.int z) H'
def spRRow (K : PySem.W.Frag) (R : Addr) : Sp := fun vs H Q _ => ∃ (r a : Addr) (n : Nat) (b rest ns : List Int), vs = [.ref r] ∧ ReaderAt R H r a n ∧ ArgAt K H a (vi ns) ∧ ns.drop n = PyFlat.putRow b ++ rest ∧ b.length ≤ 64 ∧
  ∀ (H' : Hp) (p : Addr), H p = none → ReaderAt R H' r a ((n + (PyFlat.putRow b).length : Nat) : Int) → H' p = some (.lst (vi (padded b))) → But [r] H H' → Q (.ref p) H'
section
variable {P : Program} {w : World} {K : PySem.W.Frag} {mg : Str → Option Value} {base : Heap} {C R : Addr}
theorem scRInit : FnScope ["self", "calls"] ["self", "calls"] (defScope sRInit) := ⟨rfl, rfl, rfl, by decide +kernel, rfl, by decide +kernel, by decide +kernel⟩
theorem ok_rInit {f : Addr} {fd : FuncData} (F : Fun K "__init__" "Reader.__init__" sRInit f fd) (T : Txt K mg C R) : FnOk P w K mg base CX0 1 f fd ["self", "calls"] (spRInit R) := by
  refine F.ok scRInit (fun vs H Q E h => ?_) (fun cdv A outer s H vs Q E hr h => ?_)
  · obtain ⟨r, a, dx, rfl, _⟩ := h
    rfl
  · obtain ⟨r, a, dx, rfl, hr0, k⟩ := h
    refine ⟨_, pss_cons (ps_fld (pv 0) (pv 1) rfl) (pss_one (ps_fld (pv 0) pe_int rfl)), ?_⟩
    refine ⟨_, rfl, _, rfl, r, R, dx, _, rfl, hr0, T.clR, T.nCalls, (by show 0 < 1000; decide), _, rfl, r, R, dx, _, rfl, upd_same, T.clR, T.nPlace, (by show 1 < 1000; decide), ?_⟩
    rw [upd_upd]
    exact k _ ⟨dx, upd_same⟩ But.upd1
theorem scRDone : FnScope ["self"] ["self"] (defScope sRDone) := ⟨rfl, rfl, rfl, by decide +kernel, rfl, by decide +kernel, by decide +kernel⟩
theorem ok_rDone {f : Addr} {fd : FuncData} (F : Fun K "is_done" "Reader.is_done" sRDone f fd) (T : Txt K mg C R) : FnOk P w K mg base CX0 1 f fd ["self"] (spRDone K R) := by
  refine F.ok scRDone (fun vs H Q E h => ?_) (fun cdv A outer s H vs Q E hr h => ?_)
  · obtain ⟨r, a, n, ns, rfl, _⟩ := h
    rfl
  · obtain ⟨r, a, n, ns, rfl, ⟨dx, h1⟩, hA, k⟩ := h
    refine ⟨_, pss_one (ps_ret (pe_cmpR op_ge (pe_fld (pv 0) rfl) (pe_callB call_len_seq (by rfl) T.len PySem.boot_len (pa_cons (pe_fld (pv 0) rfl) pa_nil)) (nomark _))), ?_⟩
    refine ⟨_, rfl, r, R, dx, _, _, rfl, h1, T.clR, T.nPlace, rf_place _ _, _, rfl, r, R, dx, _, _, rfl, h1, T.clR, T.nCalls, rf_calls _ _, a, _, rfl, .inl hA.sq, _, _, rfl, rfl, ?_⟩
    rw [vi_len]
    exact k
theorem scRNums : FnScope ["self", "size", "start"] ["self", "size"] (defScope sRNums) := ⟨rfl, rfl, rfl, by decide +kernel, rfl, by decide +kernel, by decide +kernel⟩
theorem ok_rNums {f : Addr} {fd : FuncData} (F : Fun K "take_numbers" "Reader.take_numbers" sRNums f fd) (T : Txt K mg C R) : FnOk P w K mg base CX0 1 f fd ["self", "size"] (spRNums K R) := by
  refine F.ok scRNums (fun vs H Q E h => ?_) (fun cdv A outer s H vs Q E hr h => ?_)
  · obtain ⟨r, a, n, m, ns, rfl, _⟩ := h
    rfl
  · obtain ⟨r, a, n, m, ns, rfl, RA, hA, hl, k⟩ := h
    obtain ⟨dx, h1⟩ := id RA
    refine ⟨_, pss_cons (ps_set (i := 2) scRNums.nd rfl (Or.inl rfl) (pe_fld (pv 0) rfl)) (pss_cons (ps_fld (pv 0) (pe_op op_add (pv 2) (pv 1)) rfl)
      (pss_one (ps_ret (pe_slice sl_list (pe_fld (pv 0) rfl) (po_some (pv 2)) (po_some (pe_fld (pv 0) rfl)))))), ?_⟩
    refine ⟨_, rfl, r, R, dx, _, _, rfl, h1, T.clR, T.nPlace, rf_place _ _, ?_⟩
    refine ⟨_, rfl, _, rfl, _, _, rfl, rfl, _, rfl, r, R, dx, _, rfl, h1, T.clR, T.nPlace, (by show 2 < 1000; decide), ?_⟩
    have e1 : putF "place" (V.int ((n : Int) + (m : Int))) (rf a n) = rf a ((n + m : Nat) : Int) := by
      rw [rf_put, Int.natCast_add]
    have h2 : (upd H r (.ins R dx (putF "place" (V.int ((n : Int) + (m : Int))) (rf a n)))) r = some (.ins R dx (rf a ((n + m : Nat) : Int))) := Eq.trans upd_same (congrArg (fun q => some (HO.ins R dx q)) e1)
    have B : But [r] H (upd H r (.ins R dx (putF "place" (V.int ((n : Int) + (m : Int))) (rf a n)))) := But.upd1
    have hA' := hA.read B RA
    refine ⟨_, rfl, r, R, dx, _, _, rfl, h2, T.clR, T.nCalls, rf_calls _ _, _, rfl, _, rfl, _, rfl, r, R, dx, _, _, rfl, h2, T.clR, T.nPlace, rf_place _ _, _, rfl, a, _, rfl, hA'.sq, fun p hp => ?_⟩
    have e2 : cutV (vi ns) (some ((n : Nat) : Int)) (some ((n + m : Nat) : Int)) = vi ((ns.drop n).take m) := by
      rw [cut_at (by omega) (by rw [vi_len]; exact hl), vi_drop, vi_take]
      congr 2
      omega
    rw [e2]
    have hpr : p ≠ r := fun z => by rw [z, h2] at hp; cases hp
    have hpH : H p = none := by
      rw [upd_ne hpr] at hp
      exact hp
    refine k _ p hpH ⟨dx, ?_⟩ upd_same fun b o e hb => ?_
    · rw [upd_ne (Ne.symm hpr)]
      exact h2
    · have hbr : b ≠ r := by simpa using hb
      rw [upd_ne (ne_of_none e hpH), upd_ne hbr]
      exact e
theorem scRNum : FnScope ["self"] ["self"] (defScope sRNum) := ⟨rfl, rfl, rfl, by decide +kernel, rfl, by decide +kernel, by decide +kernel⟩
theorem ok_rNum {f fN : Addr} {fd fdN : FuncData} (F : Fun K "take_number" "Reader.take_number" sRNum f fd) (T : Txt K mg C R) (GN : FnOk P w K mg base CX0 1 fN fdN ["self", "size"] (spRNums K R)) (mN : Meth K R "take_numbers" fN) (bN : Binds K fdN ["self", "size"] []) :
    FnOk P w K mg base CX0 2 f fd ["self"] (spRNum K R) := by
  refine F.ok scRNum (fun vs H Q E h => ?_) (fun cdv A outer s H vs Q E hr h => ?_)
  · obtain ⟨r, a, n, z, ns, rfl, _⟩ := h
    rfl
  · obtain ⟨r, a, n, z, ns, rfl, RA, hA, hz, k⟩ := h
    obtain ⟨dx, h1⟩ := id RA
    have hlt : n < ns.length := (List.getElem?_eq_some_iff.mp hz).1
    refine ⟨_, pss_one (ps_ret (pe_ix ix_list (pe_meth (pv 0) T.clR mN GN hr bN .nil pass0 (pa_cons pe_int pa_nil)) pe_int (fun _ _ => rfl))), ?_⟩
    refine ⟨_, rfl, r, dx, _, rfl, h1, rf_no _ _ (by decide +kernel) (by decide +kernel), r, a, n, 1, ns, rfl, RA, hA, by omega, fun H' p hp RA' hl B => ?_⟩
    have e : (vi ((ns.drop n).take 1))[0]? = some (.int z) := by
      refine vi_at ?_
      rw [List.getElem?_take_of_lt (by decide), List.getElem?_drop, Nat.add_zero]
      exact hz
    exact ⟨p, _, _, _, rfl, rfl, SqL.of hl, at_of (j := 0) rfl e, k H' RA' B⟩
theorem scRRow : FnScope ["self", "size"] ["self"] (defScope sRRow) := ⟨rfl, rfl, rfl, by decide +kernel, rfl, by decide +kernel, by decide +kernel⟩
theorem ok_rRow {f fN fO : Addr} {fd fdN fdO : FuncData} (F : Fun K "take_row" "Reader.take_row" sRRow f fd) (T : Txt K mg C R) (GN : FnOk P w K mg base CX0 1 fN fdN ["self", "size"] (spRNums K R)) (mN : Meth K R "take_numbers" fN) (bN : Binds K fdN ["self", "size"] [])
    (GO : FnOk P w K mg base CX0 2 fO fdO ["self"] (spRNum K R)) (mO : Meth K R "take_number" fO) (bO : Binds K fdO ["self"] []) :
    FnOk P w K mg base CX0 3 f fd ["self"] (spRRow K R) := by
  obtain ⟨tB, gB⟩ := T.gB
  refine F.ok scRRow (fun vs H Q E h => ?_) (fun cdv A outer s H vs Q E hr h => ?_)
  · obtain ⟨r, a, n, b, rest, ns, rfl, _⟩ := h
    rfl
  · obtain ⟨r, a, n, b, rest, ns, rfl, RA, hA, hd, hb, k⟩ := h
    obtain ⟨dx, h1⟩ := id RA
    have hr1 : Room 1 _ := hr.mono (by decide)
    have hlen : ns.length - n = 1 + b.length + rest.length := by
      have e := congrArg List.length hd
      rw [List.length_drop, List.length_append] at e
      have e2 : (PyFlat.putRow b).length = b.length + 1 := rfl
      omega
    have hz : ns[n]? = some (b.length : Int) := by
      have e : (ns.drop n)[0]? = some (b.length : Int) := by
        rw [hd]
        rfl
      rw [List.getElem?_drop, Nat.add_zero] at e
      exact e
    refine ⟨_, pss_cons (ps_set (i := 1) scRRow.nd rfl (Or.inl rfl) (pe_meth0 (pv 0) T.clR mO GO hr bO .nil pass0))
      (pss_one (ps_ret (pe_op op_cat (pe_meth (pv 0) T.clR mN GN hr1 bN .nil pass0 (pa_cons (pv 1) pa_nil)) (pe_op op_rep (pe_lst (pa_cons pe_int pa_nil)) (pe_op op_sub (pe_gi rfl gB) (pv 1)))))), ?_⟩
    refine ⟨_, rfl, r, dx, _, rfl, h1, rf_no _ _ (by decide +kernel) (by decide +kernel), r, a, n, _, ns, rfl, RA, hA, hz, fun H1 RA1 B1 => ?_⟩
    obtain ⟨dx1, h2⟩ := id RA1
    have hA1 := hA.read B1 RA
    refine ⟨_, rfl, r, dx1, _, rfl, h2, rf_no _ _ (by decide +kernel) (by decide +kernel), _, rfl, r, a, n + 1, b.length, ns, rfl, RA1, hA1, by omega, fun H2 p hp RA2 hl2 B2 => ?_⟩
    have eb : (ns.drop (n + 1)).take b.length = b := by
      have e : ns.drop (n + 1) = b ++ rest := by
        have e3 : ns.drop (n + 1) = (ns.drop n).drop 1 := by rw [List.drop_drop]
        rw [e3, hd]
        rfl
      rw [e, List.take_left]
    rw [eb] at hl2
    have hp0 : H p = none := by
      cases q : H p with
      | none => rfl
      | some o =>
        have npr : p ≠ r := fun z => by rw [z, h2] at hp; cases hp
        rw [B1.at1 q npr] at hp
        cases hp
    refine ⟨(by show 1 ≤ sizeLine; decide), fun l0 hl0 => ?_⟩
    refine ⟨_, rfl, _, _, rfl, rfl, l0, _, _, rfl, rfl, upd_same, (by show -(2 ^ 63) ≤ (64 : Int) - (b.length : Int); omega), (by show (64 : Int) - (b.length : Int) < 2 ^ 63; omega), ?_, fun l hl => ?_⟩
    · show 1 * ((64 : Int) - (b.length : Int)).toNat ≤ sizeLine
      exact Nat.le_trans (by omega : _ ≤ 64) (by show 64 ≤ sizeLine; decide)
    · have et : ((64 : Int) - (b.length : Int)).toNat = 64 - b.length := by omega
      rw [et, vi_rep] at *
      have s2 : Same H2 (upd (upd H2 l0 (.lst [.int 0])) l (.lst (vi (List.replicate (64 - b.length) 0)))) := (Same.new hl0).trans (Same.new hl)
      refine ⟨p, l, _, _, rfl, rfl, s2 _ _ hl2, upd_same, ?_, fun q hq => ?_⟩
      · rw [vi_len, vi_len, List.length_replicate]
        exact Nat.le_trans (by omega : _ ≤ 64) (by show 64 ≤ sizeLine; decide)
      · rw [← vi_append]
        have hq2 : H2 q = none := s2.free hq
        have nqr : q ≠ r := fun z => by
          obtain ⟨d2, h3⟩ := RA2
          rw [z, h3] at hq2
          cases hq2
        have hq0 : H q = none := by
          cases e : H q with
          | none => rfl
          | some o =>
            rw [B2.at1 (B1.at1 e nqr) nqr] at hq2
            cases hq2
        refine k _ q hq0 ?_ upd_same fun b' o e hb' => ?_
        · obtain ⟨d2, h3⟩ := RA2
          have en : ((n + 1 + b.length : Nat) : Int) = ((n + (PyFlat.putRow b).length : Nat) : Int) := by
            have e2 : (PyFlat.putRow b).length = b.length + 1 := rfl
            rw [e2]
            congr 1
            omega
          rw [en] at h3
          refine ⟨d2, ?_⟩
          rw [upd_ne (Ne.symm nqr)]
          exact s2 _ _ h3
        · have hbr : b' ≠ r := by simpa using hb'
          rw [upd_ne (ne_of_none (s2 _ _ (B2.at1 (B1.at1 e hbr) hbr)) hq)]
          exact s2 _ _ (B2.at1 (B1.at1 e hbr) hbr)
end
end Br

end
section
set_option Elab.async false
set_option linter.all false
set_option maxRecDepth 100000
set_option maxHeartbeats 4000000
/-! One call taken from the list. -/
namespace Br
open PySem PySem.Spec PyProof.Rows L2
abbrev sNext : Stmt := top 56
/-- rows handed on: the lists at these places hold these rows, padded -/
structure RowsAt (H : Hp) (as : List Addr) (bs : List (List Int)) : Prop where
  len : as.length = bs.length
  at_ : ∀ (j : Nat) (a : Addr), as[j]? = some a → ∃ b, bs[j]? = some b ∧ H a = some (.lst (vi (padded b)))
theorem RowsAt.nil {H : Hp} : RowsAt H [] [] := ⟨rfl, fun j a h => by simp at h⟩
theorem RowsAt.but {H H' : Hp} {as : List Addr} {bs : List (List Int)} {ys : List Addr} (h : RowsAt H as bs) (e : But ys H H') (n : ∀ a ∈ as, a ∉ ys) : RowsAt H' as bs :=
  ⟨h.len, fun j a ha => by
    obtain ⟨b, h1, h2⟩ := h.at_ j a ha
    exact ⟨b, h1, e _ _ h2 (n a (List.mem_of_getElem? ha))⟩⟩
theorem RowsAt.snoc {H : Hp} {as : List Addr} {bs : List (List Int)} (h : RowsAt H as bs) {a : Addr} {b : List Int} (ha : H a = some (.lst (vi (padded b)))) : RowsAt H (as ++ [a]) (bs ++ [b]) := by
  refine ⟨by rw [List.length_append, List.length_append, h.len]; rfl, fun j x hx => ?_⟩
  by_cases q : j < as.length
  · rw [List.getElem?_append_left q] at hx
    obtain ⟨b', h1, h2⟩ := h.at_ j x hx
    exact ⟨b', by rw [List.getElem?_append_left (by rw [← h.len]; exact q)]; exact h1, h2⟩
  · rw [List.getElem?_append_right (by omega)] at hx
    have e : j - as.length = 0 := by
      have := (List.getElem?_eq_some_iff.mp hx).1
      simp at this
      omega
    rw [e] at hx
    have ex : a = x := Option.some.inj hx
    subst ex
    refine ⟨b, ?_, ha⟩
    rw [List.getElem?_append_right (by rw [← h.len]; omega), ← h.len, e]
    rfl
/-- answer_call's: the call taken apart -/
def spCall (C : Addr) : Sp := fun vs H Q _ => ∃ (p l nl rl : Addr) (t : Sv04.Tally) (i : Int) (nums : List Int) (as : List Addr) (bs : List (List Int)), vs = [.ref p, .int i, .ref nl, .ref rl] ∧ TallyAt C H p l (cnts t) ∧ t.length = 512 ∧
  Ok ((i :: nums) :: bs) ∧ H nl = some (.lst (vi nums)) ∧ H rl = some (.lst (as.map V.ref)) ∧ RowsAt H as bs ∧
  ∀ (H' : Hp) (l' q : Addr), (l' = l ∨ H l' = none) → H q = none → q ≠ l' → TallyAt C H' p l' (cnts (Sv04Neutral.step t ((i :: nums) :: bs)).1) → H' q = some (.lst (vi (Sv04Neutral.step t ((i :: nums) :: bs)).2)) → But [p, l] H H' → Q (.ref q) H'
def spNext (K : PySem.W.Frag) (C R : Addr) : Sp := fun vs H Q _ => ∃ (p l r a : Addr) (t : Sv04.Tally) (n : Nat) (ns rest : List Int) (c : Cl), vs = [.ref p, .ref r] ∧ TallyAt C H p l (cnts t) ∧ t.length = 512 ∧ ReaderAt R H r a n ∧ ArgAt K H a (vi ns) ∧ Ok c ∧ ns.drop n = PyFlat.put1 c ++ rest ∧
  ∀ (H' : Hp) (l' q : Addr), (l' = l ∨ H l' = none) → H q = none → q ≠ l' → TallyAt C H' p l' (cnts (Sv04Neutral.step t c).1) → ReaderAt R H' r a ((n + (PyFlat.put1 c).length : Nat) : Int) → H' q = some (.lst (vi (Sv04Neutral.step t c).2)) → But [p, l, r] H H' → Q (.ref q) H'
/-- the table of shapes as far as the text has it: the call's number, how many numbers, how many rows -/
def Shaped (tab : List (Int × List Int)) : Prop := ∀ c : Cl, Ok c → ∃ (i : Int) (nums : List Int) (bs : List (List Int)), c = (i :: nums) :: bs ∧ tab.lookup i = some [(nums.length : Int), (bs.length : Int)] ∧ ∀ b ∈ bs, IsRow b
theorem putRows_append : ∀ (d e : List (List Int)), PyFlat.putRows (d ++ e) = PyFlat.putRows d ++ PyFlat.putRows e
  | [], _ => rfl
  | x :: d, e => by
    show PyFlat.putRow x ++ PyFlat.putRows (d ++ e) = (PyFlat.putRow x ++ PyFlat.putRows d) ++ PyFlat.putRows e
    rw [putRows_append d e, List.append_assoc]
theorem rf_len (a : Addr) (n : Int) : (rf a n).length = 2 := rfl
theorem ne_tr {C R : Addr} {H : Hp} {p l r a : Addr} {c : List Int} {n : Int} (T : TallyAt C H p l c) (h : ReaderAt R H r a n) : p ≠ r := by
  obtain ⟨dx, h1⟩ := T.ob
  obtain ⟨dr, h2⟩ := h
  refine ne_of h1 h2 fun z => ?_
  injection z with _ _ z
  have := congrArg List.length z
  rw [rf_len] at this
  exact absurd this (by show ¬ 1 = 2; decide)
section
variable {P : Program} {w : World} {K : PySem.W.Frag} {mg : Str → Option Value} {base : Heap} {C R : Addr}
theorem scNext : FnScope ["tally", "reader", "call", "shape", "numbers", "rows"] ["tally", "reader"] (defScope sNext) := ⟨rfl, rfl, rfl, by decide +kernel, rfl, by decide +kernel, by decide +kernel⟩
theorem ok_next {f fN fO fW fC : Addr} {fd fdN fdO fdW fdC : FuncData} {dS : Addr} {tab : List (Int × List Int)} (F : Fun K "next_answer" "next_answer" sNext f fd) (T : Txt K mg C R) (mS : mg "SHAPES" = some (.ref dS)) (TS : TabAt K dS tab) (hsh : Shaped tab)
    (GN : FnOk P w K mg base CX0 1 fN fdN ["self", "size"] (spRNums K R)) (mN : Meth K R "take_numbers" fN) (bN : Binds K fdN ["self", "size"] [])
    (GO : FnOk P w K mg base CX0 2 fO fdO ["self"] (spRNum K R)) (mO : Meth K R "take_number" fO) (bO : Binds K fdO ["self"] [])
    (GW : FnOk P w K mg base CX0 3 fW fdW ["self"] (spRRow K R)) (mW : Meth K R "take_row" fW) (bW : Binds K fdW ["self"] [])
    (GC : FnOk P w K mg base CX0 7 fC fdC ["tally", "call", "numbers", "rows"] (spCall C)) (kC : PySem.W.keepIn K (.ref fC) = true) (bC : Binds K fdC ["tally", "call", "numbers", "rows"] []) (mC : mg "answer_call" = some (.ref fC)) :
    FnOk P w K mg base CX0 8 f fd ["tally", "reader"] (spNext K C R) := by
  refine F.ok scNext (fun vs H Q E h => ?_) (fun cdv A outer s H vs Q E hr h => ?_)
  · obtain ⟨p, l, r, a, t, n, ns, rest, c, rfl, _⟩ := h
    rfl
  · obtain ⟨p, l, r, a, t, n, ns, rest, c, rfl, TA, hl, RA, hA, hoc, hdrop, k⟩ := h
    have hr3 : Room 3 _ := hr.mono (by decide)
    have hr2 : Room 2 _ := hr.mono (by decide)
    have hr1 : Room 1 _ := hr.mono (by decide)
    obtain ⟨i, nums, bs, rfl, htab, hrows⟩ := hsh c hoc
    obtain ⟨dr, hr0⟩ := id RA
    obtain ⟨dp, hp0⟩ := TA.ob
    have npr : p ≠ r := ne_tr TA RA
    have nlr : l ≠ r := ne_of TA.ls hr0 (by intro z; cases z)
    have hd1 : ns.drop n = i :: (nums ++ (PyFlat.putRows bs ++ rest)) := by
      rw [hdrop]
      show (i :: nums) ++ PyFlat.putRows bs ++ rest = _
      rw [List.append_assoc]
      rfl
    have hlen : ns.length - n = 1 + nums.length + ((PyFlat.putRows bs).length + rest.length) := by
      have e := congrArg List.length hd1
      rw [List.length_drop, List.length_cons, List.length_append, List.length_append] at e
      omega
    have hz : ns[n]? = some i := by
      have e : (ns.drop n)[0]? = some i := by
        rw [hd1]
        rfl
      rw [List.getElem?_drop, Nat.add_zero] at e
      exact e
    refine ⟨_, pss_cons (ps_set (i := 2) scNext.nd rfl (Or.inl rfl) (pe_meth0 (pv 1) T.clR mO GO hr2 bO .nil pass0))
      (pss_cons (ps_set (i := 3) scNext.nd rfl (Or.inl rfl) (pe_tab rfl mS TS (pv 2) (fun _ _ => rfl)))
      (pss_cons (ps_set (i := 4) scNext.nd rfl (Or.inl rfl) (pe_meth (pv 1) T.clR mN GN hr1 bN .nil pass0 (pa_cons (pe_ix ix_tup (pv 3) pe_int (fun _ _ => rfl)) pa_nil)))
      (pss_cons (ps_set (i := 5) scNext.nd rfl (Or.inl rfl) (pe_lst pa_nil))
      (pss_cons (ps_while PassesOwn.never (pt_cmpR op_lt (pe_callB call_len_seq (by rfl) T.len PySem.boot_len (pa_cons (pv 5) pa_nil)) (pe_ix ix_tup (pv 3) pe_int (fun _ _ => rfl)) (nomark _))
        (pss_one (ps_expr (pe_bm PySem.F.plainAttrs_list PySem.F.slot_list_append PySem.F.type_list_append mt_append (pv 5) (pa_cons (pe_meth0 (pv 1) T.clR mW GW hr3 bW .nil pass0) pa_nil)))))
      (pss_one (ps_ret (pe_call GC hr rfl mC kC bC .nil pass0 (pa_cons (pv 0) (pa_cons (pv 2) (pa_cons (pv 4) (pa_cons (pv 5) pa_nil))))))))))), ?_⟩
    -- call = reader.take_number()
    refine ⟨_, rfl, r, dr, _, rfl, hr0, rf_no _ _ (by decide +kernel) (by decide +kernel), r, a, n, i, ns, rfl, RA, hA, hz, fun H1 RA1 B1 => ?_⟩
    have hA1 := hA.read B1 RA
    obtain ⟨dr1, hr1'⟩ := id RA1
    -- shape = SHAPES[call]
    refine ⟨_, rfl, i, _, rfl, htab, fun tS hS => ?_⟩
    -- numbers = reader.take_numbers(shape[0])
    refine ⟨_, rfl, r, dr1, _, rfl, hr1', rf_no _ _ (by decide +kernel) (by decide +kernel), _, rfl, tS, _, _, _, rfl, rfl, hS.sq _, at_of (j := 0) rfl rfl, r, a, n + 1, nums.length, ns, rfl, RA1, hA1, by omega, fun H2 nl hnl RA2 hl2 B2 => ?_⟩
    have e2 : (ns.drop (n + 1)).take nums.length = nums := by
      have e3 : ns.drop (n + 1) = (ns.drop n).drop 1 := by rw [List.drop_drop]
      rw [e3, hd1]
      show (nums ++ _).take nums.length = nums
      rw [List.take_left]
    rw [e2] at hl2
    have B12 : But [r] H H2 := B1.trans B2
    have hA2 := hA1.read B2 RA1
    -- rows = []
    refine ⟨Nat.zero_le _, fun rl hrl => ?_⟩
    have s3 : Same H2 (upd H2 rl (.lst [])) := Same.new hrl
    obtain ⟨dr2, hr2'⟩ := id RA2
    have nrlr : rl ≠ r := fun z => by rw [z, hr2'] at hrl; cases hrl
    have nnl : nl ≠ rl := ne_of_none hl2 hrl
    have nnlr : nl ≠ r := ne_of hl2 hr2' (by intro z; cases z)
    have hrlH : H rl = none := B12.none1 hrl nrlr
    have hnlH : H nl = none := B1.none1 hnl nnlr
    -- while len(rows) < shape[1]
    refine ⟨fun μ σ H' => ∃ (d e : List (List Int)) (as : List Addr), bs = d ++ e ∧ μ = e.length ∧ σ = [some (.ref p), some (.ref r), some (.int i), some (.ref tS), some (.ref nl), some (.ref rl)] ∧ H' rl = some (.lst (as.map V.ref)) ∧ (∀ x ∈ as, x ≠ rl) ∧ RowsAt H' as d ∧
        ReaderAt R H' r a ((n + 1 + nums.length + (PyFlat.putRows d).length : Nat) : Int) ∧ ArgAt K H' a (vi ns) ∧ But [r] H H' ∧ H' nl = some (.lst (vi nums)),
      ⟨bs.length, [], bs, [], rfl, rfl, rfl, upd_same, fun x hx => by simp at hx, RowsAt.nil, ⟨dr2, s3 _ _ hr2'⟩, hA2.same s3, B12.trans (But.of_same s3), s3 _ _ hl2⟩, ?_⟩
    rintro μ σ H' ⟨d, e, as, ebs, rfl, rfl, hrl', hasn, RW, RA', hA', B', hnl'⟩
    obtain ⟨dr', hr'⟩ := id RA'
    have eat : atI (vi [(nums.length : Int), (bs.length : Int)]) 1 = some (.int (bs.length : Int)) := at_of (j := 1) rfl rfl
    refine ⟨_, rfl, rl, _, rfl, .inl (SqL.of hrl'), _, rfl, tS, _, _, _, rfl, rfl, hS.sq _, eat, _, _, rfl, rfl, _, rfl, ?_⟩
    have elen : (as.map V.ref).length = d.length := by rw [List.length_map, RW.len]
    rw [elen]
    cases e with
    | nil =>
      have ef : decide ((d.length : Int) < (bs.length : Int)) = false := by
        rw [ebs, List.append_nil]
        exact decide_eq_false (Int.lt_irrefl _)
      rw [ef]
      have edb : d = bs := by rw [ebs, List.append_nil]
      subst edb
      refine iteF ⟨_, rfl, _, rfl, _, rfl, _, rfl, p, l, nl, rl, t, i, nums, as, d, rfl, ⟨⟨dp, B'.at1 hp0 npr⟩, B'.at1 TA.ls nlr⟩, hl, hoc, hnl', hrl', RW, fun H4 l' q hl' hq nql TA4 hq4 B4 => ?_⟩
      have nqr : q ≠ r := fun z => by rw [z, hr'] at hq; cases hq
      have hqH : H q = none := B'.none1 hq nqr
      refine k H4 l' q ?_ hqH nql TA4 ?_ hq4 ?_
      · rcases hl' with z | z
        · exact .inl z
        · have nr : l' ≠ r := fun z2 => by rw [z2, hr'] at z; cases z
          exact .inr (B'.none1 z nr)
      · have en : ((n + 1 + nums.length + (PyFlat.putRows d).length : Nat) : Int) = ((n + (PyFlat.put1 ((i :: nums) :: d)).length : Nat) : Int) := by
          have e5 : (PyFlat.put1 ((i :: nums) :: d)).length = nums.length + 1 + (PyFlat.putRows d).length := by
            show ((i :: nums) ++ PyFlat.putRows d).length = _
            rw [List.length_append]
            rfl
          rw [e5]
          congr 1
          omega
        rw [← en]
        exact ⟨dr', B4.at2 hr' (Ne.symm npr) (Ne.symm nlr)⟩
      · intro b o eb hb
        have hb' : b ≠ p ∧ b ≠ l ∧ b ≠ r := by simpa using hb
        exact B4.at2 (B'.at1 eb hb'.2.2) hb'.1 hb'.2.1
    | cons b e =>
      have ef : decide ((d.length : Int) < (bs.length : Int)) = true := by
        rw [ebs, List.length_append, List.length_cons]
        exact decide_eq_true (by omega)
      rw [ef]
      have hb : IsRow b := hrows b (by rw [ebs]; exact List.mem_append_right _ (List.Mem.head _))
      have hdr : ns.drop (n + 1 + nums.length + (PyFlat.putRows d).length) = PyFlat.putRow b ++ (PyFlat.putRows e ++ rest) := by
        have e6 : ns.drop (n + 1 + nums.length + (PyFlat.putRows d).length) = (((ns.drop n).drop 1).drop nums.length).drop (PyFlat.putRows d).length := by
          rw [List.drop_drop, List.drop_drop, List.drop_drop]
          congr 1
          omega
        rw [e6, hd1]
        show ((nums ++ (PyFlat.putRows bs ++ rest)).drop nums.length).drop (PyFlat.putRows d).length = _
        rw [List.drop_left, ebs, putRows_append, List.append_assoc, List.drop_left]
        show (PyFlat.putRow b ++ PyFlat.putRows e) ++ rest = _
        rw [List.append_assoc]
      refine iteT ⟨fun σ' H'' => ∃ (as : List Addr), σ' = [some (.ref p), some (.ref r), some (.int i), some (.ref tS), some (.ref nl), some (.ref rl)] ∧ H'' rl = some (.lst (as.map V.ref)) ∧ (∀ x ∈ as, x ≠ rl) ∧ RowsAt H'' as (d ++ [b]) ∧
        ReaderAt R H'' r a ((n + 1 + nums.length + (PyFlat.putRows (d ++ [b])).length : Nat) : Int) ∧ ArgAt K H'' a (vi ns) ∧ But [r] H H'' ∧ H'' nl = some (.lst (vi nums)), ?_, ?_⟩
      · rintro σ' H'' ⟨as', rfl, b1, b2, b3, b4, b5, b6, b7⟩
        exact ⟨e.length, Nat.lt_succ_self _, d ++ [b], e, as', by rw [ebs, List.append_assoc]; rfl, rfl, rfl, b1, b2, b3, b4, b5, b6, b7⟩
      · refine ⟨_, rfl, .inl ⟨rfl, _, SqL.of hrl'⟩, _, rfl, r, dr', _, rfl, hr', rf_no _ _ (by decide +kernel) (by decide +kernel), r, a, _, b, _, ns, rfl, RA', hA', hdr, hb.1, fun H5 u hu RA5 hu5 B5 => ?_⟩
        have hrl5 := B5.at1 hrl' nrlr
        have hnl5 := B5.at1 hnl' nnlr
        have nur : u ≠ rl := fun z => by rw [z, hrl'] at hu; cases hu
        have har : ∀ x ∈ as, x ≠ r := fun x hx => by
          obtain ⟨j, hj⟩ := List.getElem?_of_mem hx
          obtain ⟨b0, _, hb0⟩ := RW.at_ j x hj
          exact ne_of hb0 hr' (by intro z; cases z)
        have RW5 : RowsAt H5 as d := RW.but B5 fun x hx => by simpa using har x hx
        refine ⟨rl, _, _, rfl, rfl, hrl5, ?_, ?_⟩
        · rw [elen]
          have : d.length ≤ bs.length := by rw [ebs, List.length_append]; omega
          have h3 : bs.length ≤ 3 := by cases hoc <;> simp
          exact Nat.lt_of_le_of_lt (Nat.le_trans this h3) (by show 3 < sizeLine; decide)
        · have U : But [rl] H5 (upd H5 rl (.lst (as.map V.ref ++ [.ref u]))) := But.upd1
          obtain ⟨dr5, hr5⟩ := id RA5
          refine ⟨as ++ [u], rfl, ?_, ?_, ?_, ⟨dr5, ?_⟩, ?_, ?_, ?_⟩
          · rw [upd_same, List.map_append]
            rfl
          · intro x hx
            rcases List.mem_append.mp hx with z | z
            · exact hasn x z
            · rw [List.mem_singleton.mp z]
              exact nur
          · exact (RW5.but U fun x hx => by simpa using hasn x hx).snoc (U.at1 hu5 nur)
          · rw [upd_ne (Ne.symm nrlr), putRows_append, List.length_append]
            have e7 : (PyFlat.putRows [b]).length = (PyFlat.putRow b).length := by
              show (PyFlat.putRow b ++ []).length = _
              rw [List.append_nil]
            rw [e7, ← Nat.add_assoc]
            exact hr5
          · exact (hA'.read B5 RA').but U fun y hy o x ex => by
              have hy' : y = rl := by simpa using hy
              rw [hy', hrl5] at ex
              cases ex
          · intro b' o eb hb'
            have hbr : b' ≠ r := by simpa using hb'
            have nbl : b' ≠ rl := fun z => by rw [z, hrlH] at eb; cases eb
            rw [upd_ne nbl]
            exact B5.at1 (B'.at1 eb hbr) hbr
          · rw [upd_ne nnl]
            exact hnl5
end
end Br

end
section
set_option Elab.async false
set_option linter.all false
set_option maxRecDepth 100000
set_option maxHeartbeats 4000000
/-! The whole request. -/
namespace Br
open PySem PySem.Spec PyProof.Rows L2
abbrev sAns : Stmt := top 57
def spAns (K : PySem.W.Frag) : Sp := fun vs H Q _ => ∃ (a : Addr) (cs : List Cl), vs = [.ref a] ∧ ArgAt K H a (vi (PyFlat.put cs)) ∧ cs.length ≤ 60 ∧ (∀ c ∈ cs, Ok c) ∧ ∀ (H' : Hp) (q : Addr), H' q = some (.lst (vi (toldOf cs))) → Q (.ref q) H'
theorem told_le : ∀ (cs : List Cl), (∀ c ∈ cs, Ok c) → ∀ s : Sv04Neutral.S, (PyFlat.told (PyFlat.played Sv04Neutral.step s cs)).length ≤ 65 * cs.length
  | [], _, _ => Nat.le_refl _
  | c :: cs, h, s => by
    have ih := told_le cs (fun d hd => h d (List.Mem.tail _ hd)) (Sv04Neutral.step s c).1
    have h1 := step_told_len (s := s) (h c (List.Mem.head _))
    have e : PyFlat.told (PyFlat.played Sv04Neutral.step s (c :: cs)) = (((Sv04Neutral.step s c).2.length : Int) :: (Sv04Neutral.step s c).2) ++ PyFlat.told (PyFlat.played Sv04Neutral.step (Sv04Neutral.step s c).1 cs) := rfl
    rw [e, List.length_append, List.length_cons, List.length_cons]
    omega
theorem put1_pos {c : Cl} (h : Ok c) : 0 < (PyFlat.put1 c).length := by
  cases h <;> exact Nat.succ_pos _
theorem drop_put (d rest : List Cl) : (PyFlat.put (d ++ rest)).drop (PyFlat.put d).length = PyFlat.put rest := by
  rw [put_append, List.drop_left]
section
variable {P : Program} {w : World} {K : PySem.W.Frag} {mg : Str → Option Value} {base : Heap} {C R : Addr}
theorem scAns : FnScope ["calls", "tally", "reader", "told", "numbers"] ["calls"] (defScope sAns) := ⟨rfl, rfl, rfl, by decide +kernel, rfl, by decide +kernel, by decide +kernel⟩
theorem ok_ans {f fI fJ fD fX : Addr} {fd fdI fdJ fdD fdX : FuncData} (F : Fun K "answers" "answers" sAns f fd) (T : Txt K mg C R) (mC : mg "Tally" = some (.ref C)) (mR : mg "Reader" = some (.ref R))
    (M : Mk K C fI) (GI : FnOk P w K mg base CX0 1 fI fdI ["self"] (spTInit C)) (bI : Binds K fdI ["self"] [])
    (MR : Mk K R fJ) (GJ : FnOk P w K mg base CX0 1 fJ fdJ ["self", "calls"] (spRInit R)) (bJ : Binds K fdJ ["self", "calls"] [])
    (GD : FnOk P w K mg base CX0 1 fD fdD ["self"] (spRDone K R)) (mD : Meth K R "is_done" fD) (bD : Binds K fdD ["self"] [])
    (GX : FnOk P w K mg base CX0 8 fX fdX ["tally", "reader"] (spNext K C R)) (kX : PySem.W.keepIn K (.ref fX) = true) (bX : Binds K fdX ["tally", "reader"] []) (mX : mg "next_answer" = some (.ref fX)) :
    FnOk P w K mg base CX0 9 f fd ["calls"] (spAns K) := by
  refine F.ok scAns (fun vs H Q E h => ?_) (fun cdv A outer s H vs Q E hr h => ?_)
  · obtain ⟨a, cs, rfl, _⟩ := h
    rfl
  · obtain ⟨a, cs, rfl, hA, hc, ho, k⟩ := h
    have hr2 : Room 2 _ := hr.mono (by decide)
    have hr1 : Room 1 _ := hr.mono (by decide)
    refine ⟨_, pss_cons (ps_set (i := 1) scAns.nd rfl (Or.inl rfl) (pe_make0 M GI hr2 rfl mC bI .nil pass0))
      (pss_cons (ps_set (i := 2) scAns.nd rfl (Or.inl rfl) (pe_make MR GJ hr2 rfl mR bJ .nil pass0 (pa_cons (pv 0) pa_nil)))
      (pss_cons (ps_set (i := 3) scAns.nd rfl (Or.inl rfl) (pe_lst pa_nil))
      (pss_cons (ps_while PassesOwn.never (pt_not (pt_val (pe_meth0 (pv 2) T.clR mD GD hr1 bD .nil pass0)))
        (pss_cons (ps_set (i := 4) scAns.nd rfl (Or.inl rfl) (pe_call GX hr rfl mX kX bX .nil pass0 (pa_cons (pv 1) (pa_cons (pv 2) pa_nil))))
        (pss_cons (ps_expr (pe_bm PySem.F.plainAttrs_list PySem.F.slot_list_append PySem.F.type_list_append mt_append (pv 3) (pa_cons (pe_callB call_len_seq (by rfl) T.len PySem.boot_len (pa_cons (pv 4) pa_nil)) pa_nil)))
        (pss_one (ps_expr (pe_bm PySem.F.plainAttrs_list PySem.F.slot_list_extend PySem.F.type_list_extend mt_extend (pv 3) (pa_cons (pv 4) pa_nil)))))))
      (pss_one (ps_ret (pv 3)))))), ?_⟩
    -- tally = Tally()
    intro p dp np ndp nep
    refine ⟨p, dp, rfl, upd_same, fun H1 l0 hl0 TA0 B1 => ⟨rfl, ?_⟩⟩
    have s1 : Same H H1 := fun b o e => B1.at1 (by rw [upd_ne (ne_of_none e np), upd_ne (ne_of_none e ndp)]; exact e) (ne_of_none e np)
    -- reader = Reader(calls)
    refine ⟨_, rfl, ?_⟩
    intro r dr nr ndr ner
    refine ⟨r, a, dr, rfl, upd_same, fun H2 RA0 B2 => ⟨rfl, ?_⟩⟩
    have s2 : Same H1 H2 := fun b o e => B2.at1 (by rw [upd_ne (ne_of_none e nr), upd_ne (ne_of_none e ndr)]; exact e) (ne_of_none e nr)
    -- told = []
    refine ⟨Nat.zero_le _, fun q hq => ?_⟩
    have s3 : Same H2 (upd H2 q (.lst [])) := Same.new hq
    obtain ⟨dx0, hp0⟩ := TA0.ob
    have TA2 : TallyAt C (upd H2 q (.lst [])) p l0 (cnts Sv04.fresh) := ⟨⟨dx0, s3 _ _ (s2 _ _ hp0)⟩, s3 _ _ (s2 _ _ TA0.ls)⟩
    obtain ⟨dr0, hr0⟩ := RA0
    have nql : q ≠ l0 := fun z => by rw [z, s2 _ _ TA0.ls] at hq; cases hq
    have s03 : Same H (upd H2 q (.lst [])) := (s1.trans s2).trans s3
    -- while not reader.is_done()
    refine ⟨fun m σ H' => ∃ (d rest : List Cl) (l : Addr) (v4 : Option V), cs = d ++ rest ∧ m = rest.length ∧ σ = [some (.ref a), some (.ref p), some (.ref r), some (.ref q), v4] ∧ q ≠ l ∧
        TallyAt C H' p l (cnts (after Sv04Neutral.start d)) ∧ ReaderAt R H' r a ((PyFlat.put d).length : Nat) ∧ ArgAt K H' a (vi (PyFlat.put cs)) ∧ H' q = some (.lst (vi (toldOf d))),
      ⟨cs.length, [], cs, l0, none, rfl, rfl, rfl, nql, TA2, ⟨dr0, s3 _ _ hr0⟩, hA.same s03, upd_same⟩, ?_⟩
    rintro m σ H' ⟨d, rest, l, v4, ecs, rfl, rfl, nql', TA, RA, hA', hq'⟩
    have hod : ∀ c ∈ d, Ok c := fun c hcm => ho c (by rw [ecs]; exact List.mem_append_left _ hcm)
    obtain ⟨dp', hp'⟩ := TA.ob
    obtain ⟨dr', hr'⟩ := id RA
    refine ⟨_, rfl, r, dr', _, rfl, hr', rf_no _ _ (by decide +kernel) (by decide +kernel), r, a, _, _, rfl, RA, hA', _, rfl, ?_⟩
    cases rest with
    | nil =>
      have e : decide (((PyFlat.put cs).length : Int) ≤ (((PyFlat.put d).length : Nat) : Int)) = true := by
        rw [ecs, List.append_nil]
        exact decide_eq_true (Int.le_refl _)
      rw [e]
      refine iteF ⟨_, rfl, k H' q ?_⟩
      rw [ecs, List.append_nil]
      exact hq'
    | cons c rest =>
      have hoc : Ok c := ho c (by rw [ecs]; exact List.mem_append_right _ (List.Mem.head _))
      have hdrop : (PyFlat.put cs).drop (PyFlat.put d).length = PyFlat.put1 c ++ PyFlat.put rest := by
        rw [ecs, drop_put]
        rfl
      have hlen : (PyFlat.put cs).length = (PyFlat.put d).length + ((PyFlat.put1 c).length + (PyFlat.put rest).length) := by
        rw [ecs, put_append, List.length_append]
        show _ + (PyFlat.put1 c ++ PyFlat.put rest).length = _
        rw [List.length_append]
      have e : decide (((PyFlat.put cs).length : Int) ≤ (((PyFlat.put d).length : Nat) : Int)) = false := by
        have := put1_pos hoc
        exact decide_eq_false (by omega)
      rw [e]
      refine iteT ⟨fun σ' H' => ∃ (l : Addr) (v4 : Option V), σ' = [some (.ref a), some (.ref p), some (.ref r), some (.ref q), v4] ∧ q ≠ l ∧
        TallyAt C H' p l (cnts (after Sv04Neutral.start (d ++ [c]))) ∧ ReaderAt R H' r a ((PyFlat.put (d ++ [c])).length : Nat) ∧ ArgAt K H' a (vi (PyFlat.put cs)) ∧ H' q = some (.lst (vi (toldOf (d ++ [c])))), ?_, ?_⟩
      · rintro σ' H'' ⟨l', v4', rfl, a1, a2, a3, a4, a5⟩
        exact ⟨rest.length, Nat.lt_succ_self _, d ++ [c], rest, l', v4', by rw [ecs, List.append_assoc]; rfl, rfl, rfl, a1, a2, a3, a4, a5⟩
      · have hl5 : (after Sv04Neutral.start d).length = 512 := after_len d _ fresh_len hod
        refine ⟨_, rfl, _, rfl, p, l, r, a, after Sv04Neutral.start d, _, _, _, c, rfl, TA, hl5, RA, hA', hoc, hdrop, fun H3 l' u hl' hu nul TA3 RA3 hu3 B3 => ?_⟩
        have nqp : q ≠ p := ne_of hq' hp' (by intro z; cases z)
        have nqr : q ≠ r := ne_of hq' hr' (by intro z; cases z)
        have hq3 : H3 q = some (.lst (vi (toldOf d))) := B3 q _ hq' (by simp [nqp, nql', nqr])
        have nql3 : q ≠ l' := by
          rcases hl' with z | z
          · rw [z]; exact nql'
          · exact ne_of_none hq' z
        have nqu : q ≠ u := ne_of_none hq' hu
        have hA3 : ArgAt K H3 a (vi (PyFlat.put cs)) := hA'.but B3 fun y hy o x e => by
          have hy' : y = p ∨ y = l ∨ y = r := by simpa using hy
          rcases hy' with z | z | z
          · rw [z, hp'] at e; cases e
          · rw [z, TA.ls] at e; cases e
          · rw [z, hr'] at e; cases e
        have hsz : (toldOf d).length ≤ 65 * 60 := by
          have h1 := told_le d hod Sv04Neutral.start
          have h2 : d.length ≤ 60 := by
            rw [ecs, List.length_append] at hc
            omega
          unfold toldOf
          omega
        have hst := step_told_len (s := after Sv04Neutral.start d) hoc
        -- told.append(len(numbers))
        refine ⟨_, rfl, .inl ⟨rfl, _, SqL.of hq3⟩, _, rfl, u, _, rfl, .inl (SqL.of hu3), q, _, _, rfl, rfl, hq3, ?_, ?_⟩
        · rw [vi_len]
          exact Nat.lt_of_le_of_lt hsz (by show 65 * 60 < sizeLine; decide)
        -- told.extend(numbers)
        · refine ⟨_, rfl, .inl ⟨rfl, _, SqL.of upd_same⟩, _, rfl, q, u, _, _, rfl, rfl, upd_same, (by rw [upd_ne (Ne.symm nqu)]; exact hu3), ?_, ?_⟩
          · rw [List.length_append, vi_len, vi_len]
            exact Nat.le_trans (by show (toldOf d).length + 1 + _ ≤ 65 * 60 + 65; omega) (by show 65 * 60 + 65 ≤ sizeLine; decide)
          · rw [upd_upd]
            obtain ⟨dp3, hp3⟩ := TA3.ob
            obtain ⟨dr3, hr3⟩ := id RA3
            refine ⟨l', _, rfl, nql3, ⟨⟨dp3, by rw [upd_ne (Ne.symm nqp)]; exact hp3⟩, ?_⟩, ⟨dr3, ?_⟩, ?_, ?_⟩
            · rw [upd_ne (Ne.symm nql3), after_snoc]
              exact TA3.ls
            · rw [upd_ne (Ne.symm nqr)]
              have en : (PyFlat.put (d ++ [c])).length = (PyFlat.put d).length + (PyFlat.put1 c).length := by
                rw [put_append, List.length_append]
                show _ + (PyFlat.put1 c ++ []).length = _
                rw [List.append_nil]
              rw [en]
              exact hr3
            · exact hA3.but (But.upd1 (l := q)) fun y hy o x e => by
                have hy' : y = q := by simpa using hy
                rw [hy', hq3] at e
                cases e
            · rw [upd_same, toldOf_snoc, vi_append, vi_len, List.append_assoc]
              rfl
end
end Br

end
section
set_option Elab.async false
set_option linter.all false
set_option maxRecDepth 100000
set_option maxHeartbeats 4000000
/-! Rows, lanes, masks: the defs of points 6 to 11. -/
namespace Br
open PySem PySem.Spec PyProof.Rows L2
abbrev sNumber : Stmt := top 34
abbrev sBytes : Stmt := top 35
abbrev sLanes : Stmt := top 36
abbrev sRowLanes : Stmt := top 37
abbrev sSigned : Stmt := top 38
abbrev sChosen : Stmt := top 42
abbrev sChoose : Stmt := top 43
abbrev sField : Stmt := top 45
abbrev sJoin : Stmt := top 51
/-! ### walks -/
theorem lc_zip {K : PySem.W.Frag} {a b : Addr} {xs ys : List V} (hxy : xs.length = ys.length) {g : TG} {tt : TT} {te : TE} {vs : List Nat} {σ : L2.St} {H1 : Hp} {D : Addr} {Qd : Hp → Prop} (Pv : Nat → Hp → Prop) (h0 : Pv 0 (upd H1 D (.lst [])))
    (hl : ∀ i H, i ≤ xs.length → Pv i H → SqL K H a xs ∧ SqL K H b ys)
    (hs : ∀ i x y T H, xs[i]? = some x → ys[i]? = some y → H T = none → Pv i H → g (.ref T) (wipe σ vs) (upd H T (.tup [x, y])) fun σ2 H2 => wipe σ2 vs = wipe σ vs ∧ tt σ2 H2 fun b H3 =>
      if b = true then te σ2 H3 fun y H4 => ∃ acc, H4 D = some (.lst acc) ∧ acc.length < sizeLine ∧ Pv (i + 1) (upd H4 D (.lst (acc ++ [y]))) else Pv (i + 1) H3) (hd : ∀ H, Pv xs.length H → Qd H) :
    ∃ W : Nat → Nat → Hp → Prop, (∃ m, W 0 m (upd H1 D (.lst []))) ∧ ∀ i m H, W i m H →
      ((Itz K a b).stop i H ∧ Qd H) ∨ ((Itz K a b).go i H ∧ ∃ Nx : Hp → Prop, (∀ H', Nx H' → ∃ m', m' < m ∧ W (i + 1) m' H') ∧ ∀ x H', (Itz K a b).yld i H x H' → g x (wipe σ vs) H' fun σ2 H2 => wipe σ2 vs = wipe σ vs ∧ tt σ2 H2 fun b H3 =>
        if b = true then te σ2 H3 fun y H4 => ∃ acc, H4 D = some (.lst acc) ∧ acc.length < sizeLine ∧ Nx (upd H4 D (.lst (acc ++ [y]))) else Nx H3) := by
  refine ⟨fun i m H => m = xs.length - i ∧ i ≤ xs.length ∧ Pv i H, ⟨xs.length, by simp, Nat.zero_le _, h0⟩, ?_⟩
  rintro i m H ⟨rfl, hi, p⟩
  obtain ⟨q1, q2⟩ := hl i H hi p
  by_cases hlt : i < xs.length
  · refine .inr ⟨⟨xs, ys, xs[i], ys[i]'(by omega), q1, q2, List.getElem?_eq_getElem hlt, List.getElem?_eq_getElem (by omega)⟩, Pv (i + 1), fun H' p' => ⟨xs.length - (i + 1), by omega, rfl, hlt, p'⟩, fun v H' yl => ?_⟩
    obtain ⟨T, x, y, e, hT, e2, y1, y2⟩ := yl
    subst e e2
    exact hs i x y T _ (y1 xs q1) (y2 ys q2) hT p
  · have e : i = xs.length := by omega
    subst e
    exact .inl ⟨⟨xs, ys, q1, q2, .inl (Nat.le_refl _)⟩, hd H p⟩
theorem lc_rangeC {lo c : Int} {n : Nat} {g : TG} {tt : TT} {te : TE} {vs : List Nat} {σ : L2.St} {H1 : Hp} {D : Addr} {Qd : Hp → Prop} (Pv : Nat → Hp → Prop) (h0 : Pv 0 (upd H1 D (.lst [])))
    (hs : ∀ i H, i < n → Pv i H → g (.int (lo + (i : Nat) * c)) (wipe σ vs) H fun σ2 H2 => wipe σ2 vs = wipe σ vs ∧ tt σ2 H2 fun b H3 =>
      if b = true then te σ2 H3 fun y H4 => ∃ acc, H4 D = some (.lst acc) ∧ acc.length < sizeLine ∧ Pv (i + 1) (upd H4 D (.lst (acc ++ [y]))) else Pv (i + 1) H3) (hd : ∀ H, Pv n H → Qd H) :
    ∃ W : Nat → Nat → Hp → Prop, (∃ m, W 0 m (upd H1 D (.lst []))) ∧ ∀ i m H, W i m H →
      ((Itc lo c n).stop i H ∧ Qd H) ∨ ((Itc lo c n).go i H ∧ ∃ Nx : Hp → Prop, (∀ H', Nx H' → ∃ m', m' < m ∧ W (i + 1) m' H') ∧ ∀ x H', (Itc lo c n).yld i H x H' → g x (wipe σ vs) H' fun σ2 H2 => wipe σ2 vs = wipe σ vs ∧ tt σ2 H2 fun b H3 =>
        if b = true then te σ2 H3 fun y H4 => ∃ acc, H4 D = some (.lst acc) ∧ acc.length < sizeLine ∧ Nx (upd H4 D (.lst (acc ++ [y]))) else Nx H3) := by
  refine ⟨fun i m H => m = n - i ∧ i ≤ n ∧ Pv i H, ⟨n, by simp, Nat.zero_le _, h0⟩, ?_⟩
  rintro i m H ⟨rfl, hi, p⟩
  by_cases hlt : i < n
  · refine .inr ⟨hlt, Pv (i + 1), fun H' p' => ⟨n - (i + 1), by omega, rfl, hlt, p'⟩, fun x H' y => ?_⟩
    obtain ⟨e, y⟩ := y
    subst e y
    exact hs i _ hlt p
  · have e : i = n := by omega
    subst e
    exact .inl ⟨Nat.le_refl _, hd H p⟩
/-! ### small words -/
theorem tF {c : Bool} {A B : Prop} (e : c = false) (h : B) : if c = true then A else B := by
  rw [e]
  exact iteF h
theorem tT {c : Bool} {A B : Prop} (e : c = true) (h : A) : if c = true then A else B := by
  rw [e]
  exact iteT h
theorem Same.put {H H' : Hp} {D : Addr} {o : HO} (s : Same H H') (h : H D = none) : Same H (upd H' D o) := fun b u e => by
  rw [upd_ne (ne_of_none e h)]
  exact s b u e
theorem tk {l : List Int} {i : Nat} {z : Int} (h : l[i]? = some z) : vi (l.take (i + 1)) = vi (l.take i) ++ [.int z] := by
  rw [take_snoc h, vi_append]
  rfl
theorem vn_len (l : List Nat) : (vn l).length = l.length := by
  unfold vn
  rw [List.length_map]
theorem vn_get {l : List Nat} {i n : Nat} (h : l[i]? = some n) : (vn l)[i]? = some (.int (n : Nat)) := by
  unfold vn
  rw [List.getElem?_map, h]
  rfl
theorem tkn {l : List Nat} {i n : Nat} (h : l[i]? = some n) : vn (l.take (i + 1)) = vn (l.take i) ++ [.int (n : Nat)] := by
  rw [take_snoc h]
  unfold vn
  rw [List.map_append]
  rfl
theorem mapr {f : Nat → Int} (i : Nat) : vi ((List.range (i + 1)).map f) = vi ((List.range i).map f) ++ [.int (f i)] := by
  rw [List.range_succ, List.map_append, vi_append]
  rfl
theorem mapr_len (f : Nat → Int) (i : Nat) : (vi ((List.range i).map f)).length = i := by
  rw [vi_len, List.length_map, List.length_range]
theorem small_lt {n : Nat} (h : n ≤ 64) : n < sizeLine := Nat.lt_of_le_of_lt h (by show 64 < sizeLine; decide)
theorem shown_at (v : Sv04.Vec) {j : Nat} (h : j < 64) : (shown v)[j]? = some ((Sv04.byte v j : Nat) : Int) := by
  unfold shown
  rw [List.getElem?_map, List.getElem?_range h]
  rfl
theorem and_cc (a b : Nat) : Builtin.bitAnd (a : Int) (b : Int) = ((a &&& b : Nat) : Int) := by
  rw [bitAnd_pp (by omega) (by omega), Int.toNat_natCast, Int.toNat_natCast]
theorem or_cc (a b : Nat) : Builtin.bitOr (a : Int) (b : Int) = ((a ||| b : Nat) : Int) := by
  rw [Bits.bitOr_pp (by omega) (by omega), Int.toNat_natCast, Int.toNat_natCast]
theorem xor_cc (a b : Nat) : Builtin.bitXor (a : Int) (b : Int) = ((a ^^^ b : Nat) : Int) := by
  rw [Bits.bitXor_pp (by omega) (by omega), Int.toNat_natCast, Int.toNat_natCast]
theorem bit_one (b : Bool) : decide (V.int ((b.toNat : Nat) : Int) = V.int 1) = b := by
  cases b
  · exact decide_eq_false (by intro h; exact absurd (V.int.inj h) (by decide))
  · exact decide_eq_true rfl
theorem cut_lane (v : Sv04.Vec) {w i : Nat} (h : w * i + w ≤ 64) {lo hi : Int} (e1 : lo = ((w * i : Nat) : Int)) (e2 : hi = ((w * i + w : Nat) : Int)) : cutV (vi (shown v)) (some lo) (some hi) = vn (laneBytes v w i) := by
  subst e1 e2
  rw [cut_at (by omega) (by rw [vi_len, shown_len]; exact h), vi_drop, vi_take, Nat.add_sub_cancel_left, shown_cut v h]
  unfold vi vn
  rw [List.map_map]
  rfl
theorem pow8 (i : Nat) : (2 : Int) ^ (8 * i) = 256 ^ i := by
  rw [Int.pow_mul]
  rfl
theorem rgc {w : Nat} (h : IsW w) : RgC 0 64 (w : Int) (64 / w) := by
  rcases h with rfl | rfl | rfl | rfl <;> exact ⟨by decide, by decide, by decide +kernel, by decide +kernel⟩
theorem bl_at (z : Int) {w i : Nat} (h : i < w) : (bl z w)[i]? = some (z / 256 ^ i % 256) := by
  unfold bl
  rw [List.getElem?_map, List.getElem?_range h]
  rfl
/-! ### what of the text is used here -/
structure Txt2 (K : PySem.W.Frag) (mg : Str → Option Value) : Prop where
  gL : ∃ t, mg "LANE_WIDTHS" = some (.ref t) ∧ TupIn K t [1, 2, 4, 8]
  gWB : ∃ t, mg "WORD_BITS" = some (.int 64 t)
  gWY : ∃ t, mg "WORD_BYTES" = some (.int 8 t)
  gWM : ∃ t, mg "WORD_MASK" = some (.int 18446744073709551615 t)
  gDB : ∃ t, mg "DOT_BITS" = some (.int 32 t)
  gDY : ∃ t, mg "DOT_BYTES" = some (.int 4 t)
  gLH : ∃ t, mg "LEAST_HELD" = some (.int (-2147483648) t)
  gMH : ∃ t, mg "MOST_HELD" = some (.int 2147483647 t)
  h0 : ∃ t, mg "MAJORITY" = some (.int 0 t)
  h1 : ∃ t, mg "BY_THE_FIRST" = some (.int 1 t)
  h2 : ∃ t, mg "ODD_MANY" = some (.int 2 t)
  h3 : ∃ t, mg "JUST_ONE" = some (.int 3 t)
  h4 : ∃ t, mg "ALL_THE_SAME" = some (.int 4 t)
  c7 : ∃ t, mg "CHOOSE" = some (.int 7 t)
  c8 : ∃ t, mg "PICK" = some (.int 8 t)
  c9 : ∃ t, mg "FIELDS" = some (.int 9 t)
  c10 : ∃ t, mg "DOTS" = some (.int 10 t)
  c11 : ∃ t, mg "TESTS" = some (.int 11 t)
  zip_ : mg "zip" = none
  sum_ : mg "sum" = none
  max_ : mg "max" = none
  min_ : mg "min" = none
/-! ### the promises -/
def spNumber (K : PySem.W.Frag) : Sp := fun vs H Q _ => ∃ (a : Addr) (l : List Nat), vs = [.ref a] ∧ SqL K H a (vn l) ∧ (∀ x ∈ l, x < 256) ∧ l.length ≤ 64 ∧ ∀ H' : Hp, Same H H' → Q (.int ((num l : Nat) : Int)) H'
def spBytes : Sp := fun vs H Q _ => ∃ (z : Int) (w : Nat), vs = [.int z, .int w] ∧ w ≤ 8 ∧ ∀ p : Addr, H p = none → Q (.ref p) (upd H p (.lst (vi (bl z w))))
def spLanes (K : PySem.W.Frag) : Sp := fun vs H Q _ => ∃ (a : Addr) (v : Sv04.Vec) (w : Nat), vs = [.ref a, .int w] ∧ SqL K H a (vi (shown v)) ∧ IsW w ∧ ∀ (H' : Hp) (p : Addr), H p = none → H' p = some (.lst (vn (lanes v w))) → Same H H' → Q (.ref p) H'
def spRowLanes (K : PySem.W.Frag) : Sp := fun vs H Q _ => ∃ (a : Addr) (zs : List Int) (w : Nat), vs = [.ref a, .int w] ∧ SqL K H a (vi zs) ∧ w ≤ 8 ∧ zs.length ≤ 64 ∧ ∀ (H' : Hp) (p : Addr), H p = none → H' p = some (.lst (vi (zs.flatMap fun z => bl z w))) → Same H H' → Q (.ref p) H'
def spSigned : Sp := fun vs H Q _ => ∃ x w : Nat, vs = [.int x, .int w] ∧ 0 < w ∧ w ≤ 64 ∧ x < 2 ^ w ∧ Q (.int (Sv04.signed w x)) H
def spChosen : Sp := fun vs H Q _ => ∃ (how : Int) (a b c : Nat), vs = [.int how, .int a, .int b, .int c] ∧ a < 256 ∧ b < 256 ∧ c < 256 ∧ Q (.int ((chosenB how a b c : Nat) : Int)) H
def spChoose (K : PySem.W.Frag) : Sp := fun vs H Q _ => ∃ (how : Int) (pa pb pc : Addr) (a b c : Sv04.Vec), vs = [.int how, .ref pa, .ref pb, .ref pc] ∧ SqL K H pa (vi (shown a)) ∧ SqL K H pb (vi (shown b)) ∧ SqL K H pc (vi (shown c)) ∧
  ∀ (H' : Hp) (p : Addr), H p = none → H' p = some (.lst (vi (shown (Sv04.ofBits fun i => Sv04.chosen how (Sv04.bitAt a i) (Sv04.bitAt b i) (Sv04.bitAt c i))))) → Same H H' → Q (.ref p) H'
def spField : Sp := fun vs H Q _ => ∃ q s : Nat, vs = [.int q, .int s] ∧ q < 2 ^ 64 ∧ s < 64 ∧ Q (.int (((q / 2 ^ s + q * 2 ^ (64 - s)) % 256 : Nat) : Int)) H
def spJoin : Sp := fun vs H Q _ => ∃ (a b : Nat) (n : Int), vs = [.int a, .int b, .int n] ∧ a < 2 ^ 64 ∧ b < 2 ^ 64 ∧ Q (.int (if 0 ≤ n ∧ n ≤ 64 then (((a % 2 ^ n.toNat + b * 2 ^ n.toNat) % 2 ^ 64 : Nat) : Int) else 0)) H
section
variable {P : Program} {w : World} {K : PySem.W.Frag} {mg : Str → Option Value} {base : Heap} {C R : Addr}
theorem scNumber : FnScope ["part", "number", "place", "byte"] ["part"] (defScope sNumber) := ⟨rfl, rfl, rfl, by decide +kernel, rfl, by decide +kernel, by decide +kernel⟩
theorem ok_number {f : Addr} {fd : FuncData} (F : Fun K "number_of" "number_of" sNumber f fd) (T : Txt K mg C R) : FnOk P w K mg base CX0 1 f fd ["part"] (spNumber K) := by
  refine F.ok scNumber (fun vs H Q E h => ?_) (fun cdv A outer s H vs Q E hr h => ?_)
  · obtain ⟨a, l, rfl, _⟩ := h
    rfl
  · obtain ⟨a, l, rfl, hS, hb, hl, k⟩ := h
    refine ⟨_, pss_cons (ps_set (i := 1) scNumber.nd rfl (Or.inl rfl) pe_int)
      (pss_cons (ps_for PassesOwn.never rfl (pi_enum rfl T.enum_ (pa_cons (pv 0) pa_nil)) (pg_tup rfl (pgs_cons (pg_name (i := 2) scNumber.nd rfl (Or.inl rfl)) (pgs_cons (pg_name (i := 3) scNumber.nd rfl (Or.inl rfl)) pgs_nil)))
        (pss_one (ps_aug (i := 1) scNumber.nd rfl (Or.inl rfl) (pe_op op_shl (pv 3) (pe_op op_mul pe_int (pv 2))) ip_add)))
      (pss_one (ps_ret (pv 1)))), ?_⟩
    refine ⟨_, rfl, a, vn l, rfl, hS, for_enum (K := K) (a := a) (xs := vn l) (fun i σ H' => ∃ v2 v3 : Option V, σ = [some (.ref a), some (.int ((num (l.take i) : Nat) : Int)), v2, v3] ∧ Same H H')
      ⟨none, none, rfl, Same.refl H⟩ (fun i σ H' _ ⟨_, _, _, s5⟩ => s5.seq hS) ?_ ?_⟩
    · rintro i y U σ H' hi hU ⟨v2, v3, rfl, s5⟩
      obtain ⟨x, hx, rfl⟩ := vn_at hi
      have hx2 := hb x (List.mem_of_getElem? hx)
      have hi2 : i < 64 := Nat.lt_of_lt_of_le (List.getElem?_eq_some_iff.mp hx).1 hl
      refine ⟨U, _, rfl, SqT.of upd_same, rfl, _, _, rfl, _, _, rfl, rfl, ?_⟩
      refine ⟨_, rfl, _, rfl, _, rfl, _, _, rfl, rfl, .inl ⟨by decide, by decide⟩, _, _, rfl, rfl, ⟨by show (0 : Int) ≤ 8 * ((i : Nat) : Int); omega, by show (8 : Int) * ((i : Nat) : Int) ≤ 1000000; omega, by show ((x : Nat) : Int).natAbs < 2 ^ 64; omega⟩, _, _, rfl, rfl, ?_⟩
      have e8 : ((8 : Int) * ((i : Nat) : Int)).toNat = 8 * i := by omega
      have en : ((num (l.take i) : Nat) : Int) + ((x : Nat) : Int) * 2 ^ ((8 : Int) * ((i : Nat) : Int)).toNat = ((num (l.take (i + 1)) : Nat) : Int) := by
        rw [num_take_succ l hx, e8, Int.natCast_add, Int.natCast_mul, Int.natCast_pow]
        rfl
      exact ⟨_, _, congrArg (fun z => [some (V.ref a), some (V.int z), some (V.int ((i : Nat) : Int)), some (V.int ((x : Nat) : Int))]) en, s5.trans (Same.new hU)⟩
    · rintro σ H' ⟨v2, v3, rfl, s5⟩
      rw [vn_len, List.take_length]
      exact ⟨_, rfl, k H' s5⟩
theorem scBytes : FnScope ["number", "size", "place"] ["number", "size"] (defScope sBytes) := ⟨rfl, rfl, rfl, by decide +kernel, rfl, by decide +kernel, by decide +kernel⟩
theorem ok_bytes {f : Addr} {fd : FuncData} (F : Fun K "bytes_of" "bytes_of" sBytes f fd) (T : Txt K mg C R) : FnOk P w K mg base CX0 1 f fd ["number", "size"] spBytes := by
  refine F.ok scBytes (fun vs H Q E h => ?_) (fun cdv A outer s H vs Q E hr h => ?_)
  · obtain ⟨z, w, rfl, _⟩ := h
    rfl
  · obtain ⟨z, n, rfl, hn, k⟩ := h
    refine ⟨_, pss_one (ps_ret (pe_lc (own := [("place", 2)]) rfl scBytes.nd (pi_range1 rfl T.range (pa_cons (pv 1) pa_nil)) (blkOk_by (N := ["number", "size", "place"]) (sc := defScope sBytes) (by decide +kernel))
      (fun _ _ _ _ _ => pg_name (i := 2) scBytes.nd rfl (Or.inl rfl)) (fun _ _ _ _ _ => pts_nil)
      (fun _ _ _ _ _ => pe_op op_and (pe_op op_shr (pv 0) (pe_op op_mul pe_int (pv 2))) pe_int))), ?_⟩
    refine ⟨_, rfl, (n : Int), rfl, by omega, by omega, fun D hD => lc_range (lo := 0) (n := n) (fun i H' => H' = upd H D (.lst (vi ((bl z n).take i)))) rfl ?_ ?_⟩
    · rintro i H' hi rfl
      refine ⟨rfl, ⟨_, rfl, _, rfl, _, _, rfl, rfl, .inl ⟨by decide, by decide⟩, _, _, rfl, rfl, (by show (0 : Int) ≤ 8 * (0 + ((i : Nat) : Int)); omega), _, _, rfl, rfl, ?_⟩⟩
      have e8 : ((8 : Int) * (0 + ((i : Nat) : Int))).toNat = 8 * i := by omega
      have en : Builtin.bitAnd (z / 2 ^ ((8 : Int) * (0 + ((i : Nat) : Int))).toNat) 255 = z / 256 ^ i % 256 := by
        rw [bitAnd_m8, e8, pow8]
      refine ⟨_, upd_same, ?_, ?_⟩
      · rw [vi_len, List.length_take, bl_len]
        exact small_lt (by omega)
      · rw [upd_upd, tk (bl_at z hi), ← en]
    · rintro H' rfl
      rw [List.take_of_length_le (by rw [bl_len]; exact Nat.le_refl _)]
      exact k D hD
theorem scLanes : FnScope ["row", "w", "start"] ["row", "w"] (defScope sLanes) := ⟨rfl, rfl, rfl, by decide +kernel, rfl, by decide +kernel, by decide +kernel⟩
theorem ok_lanes {f fN : Addr} {fd fdN : FuncData} (F : Fun K "lanes_of" "lanes_of" sLanes f fd) (T : Txt K mg C R) (GN : FnOk P w K mg base CX0 1 fN fdN ["part"] (spNumber K)) (kN : PySem.W.keepIn K (.ref fN) = true) (bN : Binds K fdN ["part"] []) (mN : mg "number_of" = some (.ref fN)) :
    FnOk P w K mg base CX0 2 f fd ["row", "w"] (spLanes K) := by
  obtain ⟨tB, gB⟩ := T.gB
  refine F.ok scLanes (fun vs H Q E h => ?_) (fun cdv A outer s H vs Q E hr h => ?_)
  · obtain ⟨a, v, w, rfl, _⟩ := h
    rfl
  · obtain ⟨a, v, n, rfl, hS, hw, k⟩ := h
    refine ⟨_, pss_one (ps_ret (pe_lc (own := [("start", 2)]) rfl scLanes.nd (pi_range3 rfl T.range (pa_cons pe_int (pa_cons (pe_gi rfl gB) (pa_cons (pv 1) pa_nil)))) (blkOk_by (N := ["row", "w", "start"]) (sc := defScope sLanes) (by decide +kernel))
      (fun _ _ _ _ _ => pg_name (i := 2) scLanes.nd rfl (Or.inl rfl)) (fun _ _ _ _ _ => pts_nil)
      (fun _ _ _ _ _ => pe_call GN hr rfl mN kN bN .nil pass0 (pa_cons (pe_slice (r := rSlL K) sl_list (pv 0) (po_some (pv 2)) (po_some (pe_op op_add (pv 2) (pv 1)))) pa_nil)))), ?_⟩
    refine ⟨_, rfl, 0, 64, (n : Int), 64 / n, rfl, rgc hw, fun D hD => lc_rangeC (lo := 0) (c := (n : Int)) (n := 64 / n) (fun i H' => Same H H' ∧ H' D = some (.lst (vn ((lanes v n).take i)))) ⟨Same.new hD, upd_same⟩ ?_ ?_⟩
    · rintro i H' hi ⟨s5, hD'⟩
      have hcut : n * i + n ≤ 64 := by
        rcases hw with rfl | rfl | rfl | rfl <;> omega
      have e1 : (0 : Int) + ((i : Nat) : Int) * ((n : Nat) : Int) = ((n * i : Nat) : Int) := by
        rw [Int.zero_add, Int.natCast_mul, Int.mul_comm]
      have e2 : (0 : Int) + ((i : Nat) : Int) * ((n : Nat) : Int) + ((n : Nat) : Int) = ((n * i + n : Nat) : Int) := by
        rw [e1, Int.natCast_add]
      refine ⟨rfl, ⟨_, rfl, _, rfl, _, rfl, _, rfl, _, rfl, _, _, rfl, rfl, _, rfl, a, _, rfl, s5.seq hS, fun p hp => ?_⟩⟩
      have nDp : D ≠ p := ne_of_none hD' hp
      refine ⟨p, laneBytes v n i, rfl, SqL.of (by rw [upd_same, cut_lane v hcut e1 e2]), laneBytes_lt v n i, by rw [laneBytes_len]; exact Nat.le_trans hw.le (by decide), fun H2 s6 => ?_⟩
      have hD2 : H2 D = some (.lst (vn ((lanes v n).take i))) := s6 _ _ (by rw [upd_ne nDp]; exact hD')
      refine ⟨_, hD2, ?_, Same.put ((s5.trans (Same.new hp)).trans s6) hD, ?_⟩
      · rw [vn_len, List.length_take, lanes_len]
        exact small_lt (Nat.le_trans (Nat.min_le_right _ _) hw.n_le)
      · rw [upd_same, tkn (lanes_at v hi), lane_num]
    · rintro H' ⟨s5, hD'⟩
      rw [List.take_of_length_le (by rw [lanes_len]; exact Nat.le_refl _)] at hD'
      exact k H' D hD hD' s5
theorem scRowLanes : FnScope ["lanes", "w", "row", "lane"] ["lanes", "w"] (defScope sRowLanes) := ⟨rfl, rfl, rfl, by decide +kernel, rfl, by decide +kernel, by decide +kernel⟩
theorem ok_rowLanes {f fB : Addr} {fd fdB : FuncData} (F : Fun K "row_of_lanes" "row_of_lanes" sRowLanes f fd) (GB : FnOk P w K mg base CX0 1 fB fdB ["number", "size"] spBytes) (kB : PySem.W.keepIn K (.ref fB) = true) (bB : Binds K fdB ["number", "size"] []) (mB : mg "bytes_of" = some (.ref fB)) :
    FnOk P w K mg base CX0 2 f fd ["lanes", "w"] (spRowLanes K) := by
  refine F.ok scRowLanes (fun vs H Q E h => ?_) (fun cdv A outer s H vs Q E hr h => ?_)
  · obtain ⟨a, zs, w, rfl, _⟩ := h
    rfl
  · obtain ⟨a, zs, n, rfl, hS, hn, hl, k⟩ := h
    refine ⟨_, pss_cons (ps_set (i := 2) scRowLanes.nd rfl (Or.inl rfl) (pe_lst pa_nil))
      (pss_cons (ps_for PassesOwn.never rfl (pi_list (pv 0)) (pg_name (i := 3) scRowLanes.nd rfl (Or.inl rfl))
        (pss_one (ps_expr (pe_bm PySem.F.plainAttrs_list PySem.F.slot_list_extend PySem.F.type_list_extend mt_extend (pv 2) (pa_cons (pe_call GB hr rfl mB kB bB .nil pass0 (pa_cons (pv 3) (pa_cons (pv 1) pa_nil))) pa_nil)))))
      (pss_one (ps_ret (pv 2)))), ?_⟩
    refine ⟨Nat.zero_le _, fun l hl0 => ?_⟩
    have s1 : Same H (upd H l (.lst [])) := Same.new hl0
    refine ⟨_, rfl, a, rfl, ⟨_, s1.seq hS⟩, for_list (K := K) (a := a) (xs := vi zs) (fun i σ H' => ∃ v3 : Option V, σ = [some (.ref a), some (.int (n : Int)), some (.ref l), v3] ∧ Same H H' ∧ H' l = some (.lst (vi ((zs.take i).flatMap fun z => bl z n))))
      ⟨none, rfl, s1, upd_same⟩ (fun i σ H' _ ⟨_, _, s5, _⟩ => s5.seq hS) ?_ ?_⟩
    · rintro i y σ H' hi ⟨v3, rfl, s5, hl'⟩
      obtain ⟨z, hz, rfl⟩ := vi_of hi
      have hi2 : i < zs.length := (List.getElem?_eq_some_iff.mp hz).1
      have flen : ∀ ys : List Int, (ys.flatMap fun z => bl z n).length = ys.length * n := by
        intro ys
        induction ys with
        | nil => rw [List.length_nil, Nat.zero_mul]; rfl
        | cons y ys ih => rw [List.flatMap_cons, List.length_append, bl_len, ih, List.length_cons, Nat.add_mul, Nat.one_mul, Nat.add_comm]
      refine ⟨_, rfl, .inl ⟨rfl, _, SqL.of hl'⟩, _, rfl, _, rfl, z, n, rfl, hn, fun u hu => ?_⟩
      have nlu : l ≠ u := ne_of_none hl' hu
      refine ⟨l, u, _, _, rfl, rfl, (by rw [upd_ne nlu]; exact hl'), upd_same, ?_, ?_⟩
      · rw [vi_len, vi_len, flen, bl_len, List.length_take]
        have h1 : min i zs.length * n ≤ 64 * 8 := Nat.mul_le_mul (by omega) hn
        exact Nat.le_trans (m := 520) (by omega) (by show 520 ≤ sizeLine; decide)
      · refine ⟨_, rfl, Same.put (s5.trans (Same.new hu)) hl0, ?_⟩
        rw [upd_same, take_snoc hz, List.flatMap_append, vi_append]
        show some (HO.lst (vi _ ++ vi (bl z n))) = some (HO.lst (vi _ ++ vi (bl z n ++ [])))
        rw [List.append_nil]
    · rintro σ H' ⟨v3, rfl, s5, hl'⟩
      rw [vi_len, List.take_length] at hl'
      exact ⟨_, rfl, k H' l hl0 hl' s5⟩
theorem scSigned : FnScope ["number", "bits"] ["number", "bits"] (defScope sSigned) := ⟨rfl, rfl, rfl, by decide +kernel, rfl, by decide +kernel, by decide +kernel⟩
theorem ok_signed {f fB : Addr} {fd fdB : FuncData} (F : Fun K "signed" "signed" sSigned f fd) (GB : FnOk P w K mg base CX0 1 fB fdB ["number", "place"] spBit) (kB : PySem.W.keepIn K (.ref fB) = true) (bB : Binds K fdB ["number", "place"] []) (mB : mg "bit_of" = some (.ref fB)) :
    FnOk P w K mg base CX0 2 f fd ["number", "bits"] spSigned := by
  refine F.ok scSigned (fun vs H Q E h => ?_) (fun cdv A outer s H vs Q E hr h => ?_)
  · obtain ⟨x, w, rfl, _⟩ := h
    rfl
  · obtain ⟨x, n, rfl, hn, hn2, hx, k⟩ := h
    refine ⟨_, pss_cons (ps_if (pt_cmpR op_eq (pe_call GB hr rfl mB kB bB .nil pass0 (pa_cons (pv 0) (pa_cons (pe_op op_sub (pv 1) pe_int) pa_nil))) pe_int (nomark _)) (pss_one (ps_ret (pe_op op_sub (pv 0) (pe_op op_shl pe_int (pv 1))))) pss_nil)
      (pss_one (ps_ret (pv 0))), ?_⟩
    rw [signed_bit hn hx] at k
    refine ⟨_, rfl, _, rfl, _, _, rfl, rfl, x, n - 1, ?_, rfl, _, rfl, ?_⟩
    · show [V.int (x : Int), V.int ((n : Int) - 1)] = [V.int (x : Int), V.int ((n - 1 : Nat) : Int)]
      have e : (n : Int) - 1 = ((n - 1 : Nat) : Int) := by omega
      rw [e]
    · cases e : x.testBit (n - 1) with
      | true =>
        rw [e, if_pos rfl] at k
        refine tT (by decide) ⟨_, rfl, _, rfl, _, _, rfl, rfl, ⟨by show (0 : Int) ≤ (n : Int); omega, by show (n : Int) ≤ 1000000; omega, by decide⟩, _, _, rfl, rfl, ?_⟩
        show Q (.int ((x : Int) - 1 * 2 ^ (n : Int).toNat)) H
        rw [Int.one_mul, Int.toNat_natCast]
        exact k
      | false =>
        rw [e, if_neg (by decide)] at k
        exact tF (by decide) ⟨_, rfl, k⟩
theorem scChosen : FnScope ["how", "a", "b", "c", "some", "every", "odd_many"] ["how", "a", "b", "c"] (defScope sChosen) := ⟨rfl, rfl, rfl, by decide +kernel, rfl, by decide +kernel, by decide +kernel⟩
theorem ok_chosen {f : Addr} {fd : FuncData} (F : Fun K "chosen" "chosen" sChosen f fd) (T2 : Txt2 K mg) : FnOk P w K mg base CX0 1 f fd ["how", "a", "b", "c"] spChosen := by
  obtain ⟨_, g0⟩ := T2.h0
  obtain ⟨_, g1⟩ := T2.h1
  obtain ⟨_, g2⟩ := T2.h2
  obtain ⟨_, g3⟩ := T2.h3
  obtain ⟨_, g4⟩ := T2.h4
  refine F.ok scChosen (fun vs H Q E h => ?_) (fun cdv A outer s H vs Q E hr h => ?_)
  · obtain ⟨how, a, b, c, rfl, _⟩ := h
    rfl
  · obtain ⟨how, a, b, c, rfl, ha, hb, hc, k⟩ := h
    refine ⟨_, pss_cons (ps_set (i := 4) scChosen.nd rfl (Or.inl rfl) (pe_op op_or (pe_op op_or (pv 1) (pv 2)) (pv 3)))
      (pss_cons (ps_set (i := 5) scChosen.nd rfl (Or.inl rfl) (pe_op op_and (pe_op op_and (pv 1) (pv 2)) (pv 3)))
      (pss_cons (ps_set (i := 6) scChosen.nd rfl (Or.inl rfl) (pe_op op_xor (pe_op op_xor (pv 1) (pv 2)) (pv 3)))
      (pss_cons (ps_if (pt_cmpR op_eq (pv 0) (pe_gi rfl g0) (nomark _)) (pss_one (ps_ret (pe_op op_or (pe_op op_or (pe_op op_and (pv 1) (pv 2)) (pe_op op_and (pv 1) (pv 3))) (pe_op op_and (pv 2) (pv 3))))) pss_nil)
      (pss_cons (ps_if (pt_cmpR op_eq (pv 0) (pe_gi rfl g1) (nomark _)) (pss_one (ps_ret (pe_op op_or (pe_op op_and (pv 1) (pv 2)) (pe_op op_and (pe_op op_sub pe_int (pv 1)) (pv 3))))) pss_nil)
      (pss_cons (ps_if (pt_cmpR op_eq (pv 0) (pe_gi rfl g2) (nomark _)) (pss_one (ps_ret (pv 6))) pss_nil)
      (pss_cons (ps_if (pt_cmpR op_eq (pv 0) (pe_gi rfl g3) (nomark _)) (pss_one (ps_ret (pe_op op_sub (pv 6) (pv 5)))) pss_nil)
      (pss_cons (ps_if (pt_cmpR op_eq (pv 0) (pe_gi rfl g4) (nomark _)) (pss_one (ps_ret (pe_op op_add (pv 5) (pe_op op_sub pe_int (pv 4))))) pss_nil)
      (pss_one (ps_ret pe_int))))))))), ?_⟩
    refine ⟨_, rfl, _, rfl, _, _, rfl, rfl, _, rfl, _, _, rfl, rfl, ?_⟩
    refine ⟨_, rfl, _, rfl, _, _, rfl, rfl, _, rfl, _, _, rfl, rfl, ?_⟩
    refine ⟨_, rfl, _, rfl, _, _, rfl, rfl, _, rfl, _, _, rfl, rfl, ?_⟩
    have inv (x : Nat) (h : x < 256) : (255 : Int) - (x : Int) = ((255 - x : Nat) : Int) := by omega
    refine ⟨_, rfl, rfl, _, rfl, ite2 (fun h => ?_) (fun n0 => ?_)⟩
    · have e : how = 0 := V.int.inj (of_decide_eq_true h)
      subst e
      refine ⟨_, rfl, _, rfl, _, _, rfl, rfl, _, rfl, _, rfl, _, _, rfl, rfl, _, _, rfl, rfl, _, rfl, _, rfl, _, _, rfl, rfl, _, _, rfl, rfl, ?_⟩
      show Q (.int (Builtin.bitOr (Builtin.bitOr (Builtin.bitAnd (a : Int) (b : Int)) (Builtin.bitAnd (a : Int) (c : Int))) (Builtin.bitAnd (b : Int) (c : Int)))) H
      rw [and_cc, and_cc, and_cc, or_cc, or_cc, ch0 ha hb hc]
      exact k
    refine ⟨_, rfl, rfl, _, rfl, ite2 (fun h => ?_) (fun n1 => ?_)⟩
    · have e : how = 1 := V.int.inj (of_decide_eq_true h)
      subst e
      refine ⟨_, rfl, _, rfl, _, _, rfl, rfl, _, rfl, _, _, rfl, rfl, _, rfl, _, _, rfl, rfl, _, _, rfl, rfl, ?_⟩
      show Q (.int (Builtin.bitOr (Builtin.bitAnd (a : Int) (b : Int)) (Builtin.bitAnd ((255 : Int) - (a : Int)) (c : Int)))) H
      rw [inv a ha, and_cc, and_cc, or_cc, ch1 ha hb hc]
      exact k
    refine ⟨_, rfl, rfl, _, rfl, ite2 (fun h => ?_) (fun n2 => ?_)⟩
    · have e : how = 2 := V.int.inj (of_decide_eq_true h)
      subst e
      refine ⟨_, rfl, ?_⟩
      show Q (.int (Builtin.bitXor (Builtin.bitXor (a : Int) (b : Int)) (c : Int))) H
      rw [xor_cc, xor_cc, ch2 ha hb hc]
      exact k
    refine ⟨_, rfl, rfl, _, rfl, ite2 (fun h => ?_) (fun n3 => ?_)⟩
    · have e : how = 3 := V.int.inj (of_decide_eq_true h)
      subst e
      refine ⟨_, rfl, _, rfl, _, _, rfl, rfl, ?_⟩
      show Q (.int (Builtin.bitXor (Builtin.bitXor (a : Int) (b : Int)) (c : Int) - Builtin.bitAnd (Builtin.bitAnd (a : Int) (b : Int)) (c : Int))) H
      have hle := ch3_sub ha hb hc
      rw [xor_cc, xor_cc, and_cc, and_cc, ← Int.natCast_sub hle, ch3 ha hb hc]
      exact k
    refine ⟨_, rfl, rfl, _, rfl, ite2 (fun h => ?_) (fun n4 => ?_)⟩
    · have e : how = 4 := V.int.inj (of_decide_eq_true h)
      subst e
      refine ⟨_, rfl, _, rfl, _, _, rfl, rfl, _, _, rfl, rfl, ?_⟩
      show Q (.int (Builtin.bitAnd (Builtin.bitAnd (a : Int) (b : Int)) (c : Int) + ((255 : Int) - Builtin.bitOr (Builtin.bitOr (a : Int) (b : Int)) (c : Int)))) H
      rw [and_cc, and_cc, or_cc, or_cc, inv _ (or3_lt ha hb hc), ← Int.natCast_add, ch4 ha hb hc]
      exact k
    have ne (m : Int) (h : ¬ decide (V.int how = V.int m) = true) : how ≠ m := fun z => h (decide_eq_true (congrArg V.int z))
    rw [chX (ne 0 n0) (ne 1 n1) (ne 2 n2) (ne 3 n3) (ne 4 n4)] at k
    exact k
theorem scChoose : FnScope ["how", "a", "b", "c", "place"] ["how", "a", "b", "c"] (defScope sChoose) := ⟨rfl, rfl, rfl, by decide +kernel, rfl, by decide +kernel, by decide +kernel⟩
theorem ok_choose {f fC : Addr} {fd fdC : FuncData} (F : Fun K "choose" "choose" sChoose f fd) (T : Txt K mg C R) (GC : FnOk P w K mg base CX0 1 fC fdC ["how", "a", "b", "c"] spChosen) (kC : PySem.W.keepIn K (.ref fC) = true) (bC : Binds K fdC ["how", "a", "b", "c"] []) (mC : mg "chosen" = some (.ref fC)) :
    FnOk P w K mg base CX0 2 f fd ["how", "a", "b", "c"] (spChoose K) := by
  obtain ⟨tB, gB⟩ := T.gB
  refine F.ok scChoose (fun vs H Q E h => ?_) (fun cdv A outer s H vs Q E hr h => ?_)
  · obtain ⟨how, pa, pb, pc, a, b, c, rfl, _⟩ := h
    rfl
  · obtain ⟨how, pa, pb, pc, a, b, c, rfl, ha, hb, hc, k⟩ := h
    refine ⟨_, pss_one (ps_ret (pe_lc (own := [("place", 4)]) rfl scChoose.nd (pi_range1 rfl T.range (pa_cons (pe_gi rfl gB) pa_nil)) (blkOk_by (N := ["how", "a", "b", "c", "place"]) (sc := defScope sChoose) (by decide +kernel))
      (fun _ _ _ _ _ => pg_name (i := 4) scChoose.nd rfl (Or.inl rfl)) (fun _ _ _ _ _ => pts_nil)
      (fun _ _ _ _ _ => pe_call GC hr rfl mC kC bC .nil pass0 (pa_cons (pv 0) (pa_cons (pe_ix (r := rIxL K) ix_list (pv 1) (pv 4) (fun _ _ => rfl)) (pa_cons (pe_ix (r := rIxL K) ix_list (pv 2) (pv 4) (fun _ _ => rfl)) (pa_cons (pe_ix (r := rIxL K) ix_list (pv 3) (pv 4) (fun _ _ => rfl)) pa_nil))))))), ?_⟩
    refine ⟨64, rfl, by decide, by decide, fun D hD => lc_range (lo := 0) (n := 64) (fun i H' => H' = upd H D (.lst (vi ((List.range i).map fun j => ((chosenB how (Sv04.byte a j) (Sv04.byte b j) (Sv04.byte c j) : Nat) : Int))))) rfl ?_ ?_⟩
    · rintro i H' hi rfl
      have s1 : Same H (upd H D (.lst (vi ((List.range i).map fun j => ((chosenB how (Sv04.byte a j) (Sv04.byte b j) (Sv04.byte c j) : Nat) : Int))))) := Same.new hD
      refine ⟨rfl, ⟨_, rfl, _, rfl, _, rfl, pa, _, _, _, rfl, rfl, s1.seq ha, at_of (Int.zero_add _) (vi_at (shown_at a hi)), _, rfl, _, rfl, pb, _, _, _, rfl, rfl, s1.seq hb, at_of (Int.zero_add _) (vi_at (shown_at b hi)),
        _, rfl, _, rfl, pc, _, _, _, rfl, rfl, s1.seq hc, at_of (Int.zero_add _) (vi_at (shown_at c hi)), how, Sv04.byte a i, Sv04.byte b i, Sv04.byte c i, rfl, byte_lt a i, byte_lt b i, byte_lt c i, _, upd_same, ?_, ?_⟩⟩
      · rw [mapr_len]
        exact small_lt (by omega)
      · rw [upd_upd, mapr]
    · rintro H' rfl
      exact k _ D hD (by rw [upd_same, shown_choose]) (Same.new hD)
theorem scField : FnScope ["word", "s"] ["word", "s"] (defScope sField) := ⟨rfl, rfl, rfl, by decide +kernel, rfl, by decide +kernel, by decide +kernel⟩
theorem ok_field {f : Addr} {fd : FuncData} (F : Fun K "field_of" "field_of" sField f fd) (T2 : Txt2 K mg) : FnOk P w K mg base CX0 1 f fd ["word", "s"] spField := by
  obtain ⟨_, gW⟩ := T2.gWB
  refine F.ok scField (fun vs H Q E h => ?_) (fun cdv A outer s H vs Q E hr h => ?_)
  · obtain ⟨q, s, rfl, _⟩ := h
    rfl
  · obtain ⟨q, n, rfl, hq, hn, k⟩ := h
    refine ⟨_, pss_one (ps_ret (pe_op op_and (pe_op op_or (pe_op op_shr (pv 0) (pv 1)) (pe_op op_shl (pv 0) (pe_op op_sub (pe_gi rfl gW) (pv 1)))) pe_int)), ?_⟩
    refine ⟨_, rfl, _, rfl, _, _, rfl, rfl, (by show (0 : Int) ≤ (n : Int); omega), _, rfl, _, rfl, _, _, rfl, rfl, _, _, rfl, rfl, ⟨by show (0 : Int) ≤ 64 - (n : Int); omega, by show (64 : Int) - (n : Int) ≤ 1000000; omega, by show (q : Int).natAbs < 2 ^ 64; omega⟩, _, _, rfl, rfl, _, _, rfl, rfl, ?_⟩
    show Q (.int (Builtin.bitAnd (Builtin.bitOr ((q : Int) / 2 ^ ((n : Int)).toNat) ((q : Int) * 2 ^ ((64 : Int) - (n : Int)).toNat)) 255)) H
    have e1 : ((64 : Int) - (n : Int)).toNat = 64 - n := by omega
    have e2 : (q : Int) / 2 ^ n = ((q / 2 ^ n : Nat) : Int) := by
      rw [Int.natCast_ediv, Int.natCast_pow]
      rfl
    have e3 : (q : Int) * 2 ^ (64 - n) = ((q * 2 ^ (64 - n) : Nat) : Int) := by
      rw [Int.natCast_mul, Int.natCast_pow]
      rfl
    have e4 : (((q / 2 ^ n ||| q * 2 ^ (64 - n) : Nat) : Int)) % 256 = (((q / 2 ^ n ||| q * 2 ^ (64 - n)) % 256 : Nat) : Int) := by
      rw [Int.natCast_emod]
      rfl
    rw [bitAnd_m8, Int.toNat_natCast, e1, e2, e3, or_cc, e4, field_or hq hn]
    exact k
theorem scJoin : FnScope ["a", "b", "n", "low"] ["a", "b", "n"] (defScope sJoin) := ⟨rfl, rfl, rfl, by decide +kernel, rfl, by decide +kernel, by decide +kernel⟩
theorem ok_join {f : Addr} {fd : FuncData} (F : Fun K "join_bits" "join_bits" sJoin f fd) (T2 : Txt2 K mg) : FnOk P w K mg base CX0 1 f fd ["a", "b", "n"] spJoin := by
  obtain ⟨_, gW⟩ := T2.gWB
  obtain ⟨_, gM⟩ := T2.gWM
  refine F.ok scJoin (fun vs H Q E h => ?_) (fun cdv A outer s H vs Q E hr h => ?_)
  · obtain ⟨a, b, n, rfl, _⟩ := h
    rfl
  · obtain ⟨a, b, n, rfl, ha, hb, k⟩ := h
    refine ⟨_, pss_cons (ps_if (PW.pt (pw_or (pt_cmpR op_lt (pv 2) pe_int (nomark _)) (pw_or1 (pt_cmpR op_gt (pv 2) (pe_gi rfl gW) (nomark _))))) (pss_one (ps_ret pe_int)) pss_nil)
      (pss_cons (ps_set (i := 3) scJoin.nd rfl (Or.inl rfl) (pe_op op_and (pv 0) (pe_op op_sub (pe_op op_shl pe_int (pv 2)) pe_int)))
      (pss_one (ps_ret (pe_op op_and (pe_op op_or (pv 3) (pe_op op_shl (pv 1) (pv 2))) (pe_gi rfl gM))))), ?_⟩
    refine ⟨_, rfl, _, _, rfl, rfl, _, rfl, ite2 (fun h => ?_) (fun h => ?_)⟩
    · have h' : n < 0 := of_decide_eq_true h
      rw [if_neg (by omega)] at k
      exact iteT k
    · have h' : ¬ n < 0 := fun z => h (decide_eq_true z)
      refine ⟨_, rfl, _, _, rfl, rfl, _, rfl, ite2 (fun h2 => ?_) (fun h2 => ?_)⟩
      · have h2' : (64 : Int) < n := of_decide_eq_true h2
        rw [if_neg (by omega)] at k
        exact k
      · have h2' : ¬ (64 : Int) < n := fun z => h2 (decide_eq_true z)
        rw [if_pos (by omega)] at k
        obtain ⟨m, rfl⟩ := Int.eq_ofNat_of_zero_le (show 0 ≤ n by omega)
        have cp (x : Int) (hx : x.natAbs < 2 ^ 64) : CPow x (m : Int) := ⟨by omega, by omega, hx⟩
        refine ⟨_, rfl, _, rfl, _, _, rfl, rfl, cp 1 (by decide), _, _, rfl, rfl, _, _, rfl, rfl, _, rfl, _, rfl, _, rfl, _, _, rfl, rfl, cp (b : Int) (by omega), _, _, rfl, rfl, _, _, rfl, rfl, ?_⟩
        show Q (.int (Builtin.bitAnd (Builtin.bitOr (Builtin.bitAnd (a : Int) (1 * 2 ^ ((m : Int)).toNat - 1)) ((b : Int) * 2 ^ ((m : Int)).toNat)) 18446744073709551615)) H
        rw [Int.toNat_natCast] at k
        rw [Int.toNat_natCast, Int.one_mul, Bits.bitAnd_mask m (by omega)]
        have e1 : (a : Int) % 2 ^ m = ((a % 2 ^ m : Nat) : Int) := by
          rw [Int.natCast_emod, Int.natCast_pow]
          rfl
        have e2 : (b : Int) * 2 ^ m = ((b * 2 ^ m : Nat) : Int) := by
          rw [Int.natCast_mul, Int.natCast_pow]
          rfl
        have e3 : (18446744073709551615 : Int) = 2 ^ 64 - 1 := by decide
        rw [e1, e2, or_cc, e3, Bits.bitAnd_mask 64 (by omega)]
        have e4 : (((a % 2 ^ m ||| b * 2 ^ m : Nat) : Int)) % 2 ^ 64 = (((a % 2 ^ m ||| b * 2 ^ m) % 2 ^ 64 : Nat) : Int) := by
          rw [Int.natCast_emod, Int.natCast_pow]
          rfl
        rw [e4, join_or]
        exact k
end
end Br

end
section
set_option Elab.async false
set_option linter.all false
set_option maxRecDepth 100000
set_option maxHeartbeats 4000000
/-! pick, fields, dots, tests. -/
namespace Br
open PySem PySem.Spec PyProof.Rows L2
abbrev sPick : Stmt := top 44
abbrev sFields : Stmt := top 46
abbrev sProds : Stmt := top 47
abbrev sDot : Stmt := top 48
abbrev sDots : Stmt := top 49
abbrev sMask : Stmt := top 50
theorem inV_w (w : Int) : inV (.int w) (vi [1, 2, 4, 8]) = decide (w ∈ Sv04.widths) := by
  have e : inV (.int w) (vi [1, 2, 4, 8]) = ((1 == w) || ((2 == w) || ((4 == w) || ((8 == w) || false)))) := rfl
  rw [e, Bool.eq_iff_iff, decide_eq_true_iff, mem_widths]
  simp only [Bool.or_eq_true, beq_iff_eq, Bool.false_eq_true, or_false]
  omega
theorem prods_at {A B : List Nat} {i x y : Nat} (hx : A[i]? = some x) (hy : B[i]? = some y) : (prods A B)[i]? = some ((x : Int) * Sv04.signed 8 y) := by
  unfold prods
  rw [List.getElem?_map, (List.getElem?_zip_eq_some (z := (x, y))).mpr ⟨hx, hy⟩]
  rfl
theorem prods_len {A B : List Nat} (h : A.length = B.length) : (prods A B).length = A.length := by
  unfold prods
  rw [List.length_map, List.length_zip, h, Nat.min_self]
theorem vi_vn (l : List Nat) : vi (l.map fun n : Nat => (n : Int)) = vn l := by
  unfold vi vn
  rw [List.map_map]
  rfl
theorem hold_eq (x : Int) : (if (if x < 2147483647 then x else 2147483647) > -2147483648 then (if x < 2147483647 then x else 2147483647) else -2147483648) = max (-2147483648) (min 2147483647 x) := by
  split <;> split <;> omega
def dotH (held : Int) (x : Int) : Int := if held ≠ 0 then max (-2147483648) (min 2147483647 x) else x
def spPick (K : PySem.W.Frag) : Sp := fun vs H Q _ => ∃ (k : Nat) (n : Int) (pp pa pb : Addr) (p a b : Sv04.Vec), vs = [.int k, .int n, .ref pp, .ref pa, .ref pb] ∧ SqL K H pp (vi (shown p)) ∧ SqL K H pa (vi (shown a)) ∧ SqL K H pb (vi (shown b)) ∧
  ∀ (H' : Hp) (r : Addr), H r = none → H' r = some (.lst (vi (shown (if n ∈ Sv04.widths then Sv04.picked n.toNat p a b k else Sv04.zeros)))) → Same H H' → Q (.ref r) H'
def spFields (K : PySem.W.Frag) : Sp := fun vs H Q _ => ∃ (k : Nat) (px pt : Addr) (x t : Sv04.Vec), vs = [.int k, .ref px, .ref pt] ∧ SqL K H px (vi (shown x)) ∧ SqL K H pt (vi (shown t)) ∧
  ∀ (H' : Hp) (r : Addr), H r = none → H' r = some (.lst (vi (shown (Sv04.ofBytes fun j => if k.testBit j = true then Sv04.field x (Sv04.byte t j % 64) j else 0)))) → Same H H' → Q (.ref r) H'
def spProds (K : PySem.W.Frag) : Sp := fun vs H Q _ => ∃ (la lb : Addr) (A B : List Nat), vs = [.ref la, .ref lb] ∧ SqL K H la (vn A) ∧ SqL K H lb (vn B) ∧ A.length = B.length ∧ A.length ≤ 64 ∧ (∀ x ∈ A, x < 256) ∧ (∀ x ∈ B, x < 256) ∧
  ∀ (H' : Hp) (r : Addr), H r = none → H' r = some (.lst (vi (prods A B))) → Same H H' → Q (.ref r) H'
def spDot (K : PySem.W.Frag) : Sp := fun vs H Q _ => ∃ (held : Int) (st : Nat) (la lb : Addr) (A B : List Nat), vs = [.int held, .int st, .ref la, .ref lb] ∧ SqL K H la (vn A) ∧ SqL K H lb (vn B) ∧ A.length = B.length ∧ A.length ≤ 64 ∧ (∀ x ∈ A, x < 256) ∧ (∀ x ∈ B, x < 256) ∧ st < 2 ^ 32 ∧
  ∀ (H' : Hp), Same H H' → Q (.int (dotH held (Sv04.signed 32 st + (prods A B).sum))) H'
def spDots (K : PySem.W.Frag) : Sp := fun vs H Q _ => ∃ (k : Nat) (held : Int) (ps pa pb : Addr) (s a b : Sv04.Vec), vs = [.int k, .int held, .ref ps, .ref pa, .ref pb] ∧ SqL K H ps (vi (shown s)) ∧ SqL K H pa (vi (shown a)) ∧ SqL K H pb (vi (shown b)) ∧
  ∀ (H' : Hp) (r : Addr), H r = none → H' r = some (.lst (vi (shown (Sv04.ofLanes 4 fun j => if k.testBit j = true then Sv04.kept (decide (held ≠ 0)) (Sv04.dot (Sv04.signed 32 (Sv04.lane s 4 j)) a b j) else Sv04.lane s 4 j)))) → Same H H' → Q (.ref r) H'
def spMask (K : PySem.W.Frag) : Sp := fun vs H Q _ => ∃ (n no : Int) (pa pb : Addr) (a b : Sv04.Vec), vs = [.int n, .int no, .ref pa, .ref pb] ∧ SqL K H pa (vi (shown a)) ∧ SqL K H pb (vi (shown b)) ∧
  ∀ (H' : Hp), Same H H' → Q (.int (if n ∈ Sv04.widths then ((Sv04.maskOf (64 / n.toNat) fun j => Sv04.common a b n.toNat j != decide (no ≠ 0) : Nat) : Int) else 0)) H'
section
variable {P : Program} {w : World} {K : PySem.W.Frag} {mg : Str → Option Value} {base : Heap} {C R : Addr}
theorem scPick : FnScope ["k", "w", "places", "a", "b", "lanes", "picked", "j", "place"] ["k", "w", "places", "a", "b"] (defScope sPick) := ⟨rfl, rfl, rfl, by decide +kernel, rfl, by decide +kernel, by decide +kernel⟩
theorem ok_pick {f fB fL fR : Addr} {fd fdB fdL fdR : FuncData} (F : Fun K "pick" "pick" sPick f fd) (T : Txt K mg C R) (T2 : Txt2 K mg)
    (GB : FnOk P w K mg base CX0 1 fB fdB ["number", "place"] spBit) (kB : PySem.W.keepIn K (.ref fB) = true) (bB : Binds K fdB ["number", "place"] []) (mB : mg "bit_of" = some (.ref fB))
    (GL : FnOk P w K mg base CX0 2 fL fdL ["row", "w"] (spLanes K)) (kL : PySem.W.keepIn K (.ref fL) = true) (bL : Binds K fdL ["row", "w"] []) (mL : mg "lanes_of" = some (.ref fL))
    (GR : FnOk P w K mg base CX0 2 fR fdR ["lanes", "w"] (spRowLanes K)) (kR : PySem.W.keepIn K (.ref fR) = true) (bR : Binds K fdR ["lanes", "w"] []) (mR : mg "row_of_lanes" = some (.ref fR)) :
    FnOk P w K mg base CX0 3 f fd ["k", "w", "places", "a", "b"] (spPick K) := by
  obtain ⟨tL, gL, hL⟩ := T2.gL
  obtain ⟨_, gB⟩ := T.gB
  refine F.ok scPick (fun vs H Q E h => ?_) (fun cdv A outer s H vs Q E hr h => ?_)
  · obtain ⟨k, n, pp, pa, pb, p, a, b, rfl, _⟩ := h
    rfl
  · obtain ⟨k, n, pp, pa, pb, p, a, b, rfl, hp, ha, hb, kk⟩ := h
    have r1 : Room 1 _ := hr.mono (by decide)
    refine ⟨_, pss_cons (ps_if (pt_cmpR op_notIn_seq (pv 1) (pe_glob (v := .ref tL) rfl gL rfl) (by with_unfolding_all rfl)) (pss_one (ps_ret (pe_op op_rep (pe_lst (pa_cons pe_int pa_nil)) (pe_gi rfl gB)))) pss_nil)
      (pss_cons (ps_set (i := 5) scPick.nd rfl (Or.inl rfl) (pe_op op_cat (pe_call GL hr rfl mL kL bL .nil pass0 (pa_cons (pv 3) (pa_cons (pv 1) pa_nil))) (pe_call GL hr rfl mL kL bL .nil pass0 (pa_cons (pv 4) (pa_cons (pv 1) pa_nil)))))
      (pss_cons (ps_set (i := 6) scPick.nd rfl (Or.inl rfl) (pe_lst pa_nil))
      (pss_cons (ps_for PassesOwn.never rfl (pi_enum rfl T.enum_ (pa_cons (pe_call GL hr rfl mL kL bL .nil pass0 (pa_cons (pv 2) (pa_cons (pv 1) pa_nil))) pa_nil)) (pg_tup rfl (pgs_cons (pg_name (i := 7) scPick.nd rfl (Or.inl rfl)) (pgs_cons (pg_name (i := 8) scPick.nd rfl (Or.inl rfl)) pgs_nil)))
        (pss_one (ps_expr (pe_bm PySem.F.plainAttrs_list PySem.F.slot_list_append PySem.F.type_list_append mt_append (pv 6) (pa_cons (pe_ifExp (pt_cmpR op_eq (pe_call GB r1 rfl mB kB bB .nil pass0 (pa_cons (pv 0) (pa_cons (pv 7) pa_nil))) pe_int (nomark _))
          (pe_ix ix_list (pv 5) (pe_op op_mod (pv 8) (pe_callB call_len_seq (by rfl) T.len PySem.boot_len (pa_cons (pv 5) pa_nil))) (fun _ _ => rfl)) pe_int) pa_nil)))))
      (pss_one (ps_ret (pe_call GR hr rfl mR kR bR .nil pass0 (pa_cons (pv 6) (pa_cons (pv 1) pa_nil)))))))), ?_⟩
    refine ⟨_, rfl, tL, _, rfl, .inr (hL.sq _), rfl, rfl, _, rfl, ite2 (fun h => ?_) (fun h => ?_)⟩
    · have hn : ¬ n ∈ Sv04.widths := fun z => by
        have h' : (!inV (.int n) (vi [1, 2, 4, 8])) = true := h
        rw [inV_w, decide_eq_true z] at h'
        exact absurd h' (by decide)
      rw [if_neg hn] at kk
      refine ⟨(by show 1 ≤ sizeLine; decide), fun l0 hl0 => ⟨l0, 64, [.int 0], rfl, rfl, upd_same, by decide, by decide, (by show 1 * 64 ≤ sizeLine; decide), fun l hl => ?_⟩⟩
      refine kk _ l ((Same.new hl0).free hl) ?_ ((Same.new hl0).trans (Same.new hl))
      rw [upd_same, shown_zeros]
      exact congrArg (fun q => some (HO.lst q)) (vi_rep 64 0)
    · have hn : n ∈ Sv04.widths := by
        by_cases z : n ∈ Sv04.widths
        · exact z
        · have h' : ¬ (!inV (.int n) (vi [1, 2, 4, 8])) = true := h
          rw [inV_w, decide_eq_false z] at h'
          exact absurd rfl h'
      rw [if_pos hn] at kk
      obtain ⟨hw, en⟩ := isW_of hn
      generalize n.toNat = m at hw en kk
      subst en
      -- lanes = lanes_of(a, w) + lanes_of(b, w)
      refine ⟨_, rfl, _, rfl, pa, a, m, rfl, ha, hw, fun H1 u1 hu1 hl1 s1 => ?_⟩
      refine ⟨_, rfl, _, rfl, pb, b, m, rfl, s1.seq hb, hw, fun H2 u2 hu2 hl2 s2 => ?_⟩
      have hn64 := hw.n_le
      refine ⟨u1, u2, _, _, rfl, rfl, s2 _ _ hl1, hl2, ?_, fun u hu => ?_⟩
      · rw [vn_len, vn_len, lanes_len, lanes_len]
        exact Nat.le_trans (m := 128) (by omega) (by show 128 ≤ sizeLine; decide)
      have s3 : Same H2 (upd H2 u (.lst (vn (lanes a m) ++ vn (lanes b m)))) := Same.new hu
      -- picked = []
      refine ⟨Nat.zero_le _, fun q hq => ?_⟩
      have s4 := Same.new (o := .lst []) hq
      have nuq : u ≠ q := ne_of_none upd_same hq
      have s04 := ((s1.trans s2).trans s3).trans s4
      have hqH : H q = none := ((s1.trans s2).trans s3).free hq
      -- for j, place in enumerate(lanes_of(places, w))
      refine ⟨_, rfl, _, rfl, pp, p, m, rfl, s04.seq hp, hw, fun H5 u5 hu5 hl5 s5 => ?_⟩
      have ev : vn (lanes a m) ++ vn (lanes b m) = vn (lanes a m ++ lanes b m) := by
        unfold vn
        rw [List.map_append]
      have hu5' : H5 u = some (.lst (vn (lanes a m ++ lanes b m))) := s5 _ _ (by rw [upd_ne nuq, upd_same, ev])
      have hq5 : H5 q = some (.lst []) := s5 _ _ upd_same
      have n5q : u5 ≠ q := fun z => by rw [z, upd_same] at hu5; cases hu5
      refine ⟨u5, _, rfl, SqL.of hl5, for_enum (K := K) (a := u5) (xs := vn (lanes p m)) (fun i σ H' => ∃ v7 v8 : Option V, σ = [some (.int (k : Int)), some (.int ((m : Nat) : Int)), some (.ref pp), some (.ref pa), some (.ref pb), some (.ref u), some (.ref q), v7, v8] ∧ Same H H' ∧
          H' u = some (.lst (vn (lanes a m ++ lanes b m))) ∧ H' u5 = some (.lst (vn (lanes p m))) ∧ H' q = some (.lst (vi ((List.range i).map fun j => ((pickL m p a b k j : Nat) : Int)))))
        ⟨none, none, rfl, s04.trans s5, hu5', hl5, hq5⟩ (fun i σ H' _ ⟨_, _, _, _, _, h5, _⟩ => SqL.of h5) ?_ ?_⟩
      · rintro i y U σ H' hi hU ⟨v7, v8, rfl, s6, h1, h2, h3⟩
        obtain ⟨x, hx, rfl⟩ := vn_at hi
        have hi2 : i < 64 / m := by
          have := (List.getElem?_eq_some_iff.mp hx).1
          rw [lanes_len] at this
          exact this
        have ex : x = Sv04.lane p m i := by
          rw [lanes_at p hi2] at hx
          exact (Option.some.inj hx).symm
        subst ex
        have hqU : q ≠ U := ne_of_none h3 hU
        have huU : u ≠ U := ne_of_none h1 hU
        have h5U : u5 ≠ U := ne_of_none h2 hU
        have fin : ∀ z : Int, z = ((pickL m p a b k i : Nat) : Int) → ∃ v7' v8' : Option V, [some (V.int (k : Int)), some (.int ((m : Nat) : Int)), some (.ref pp), some (.ref pa), some (.ref pb), some (.ref u), some (.ref q), some (.int ((i : Nat) : Int)), some (.int ((Sv04.lane p m i : Nat) : Int))] = [some (.int (k : Int)), some (.int ((m : Nat) : Int)), some (.ref pp), some (.ref pa), some (.ref pb), some (.ref u), some (.ref q), v7', v8'] ∧
            Same H (upd (upd H' U (.tup [.int ((i : Nat) : Int), .int ((Sv04.lane p m i : Nat) : Int)])) q (.lst (vi ((List.range i).map fun j => ((pickL m p a b k j : Nat) : Int)) ++ [.int z]))) ∧
            (upd (upd H' U (.tup [.int ((i : Nat) : Int), .int ((Sv04.lane p m i : Nat) : Int)])) q (.lst (vi ((List.range i).map fun j => ((pickL m p a b k j : Nat) : Int)) ++ [.int z]))) u = some (.lst (vn (lanes a m ++ lanes b m))) ∧
            (upd (upd H' U (.tup [.int ((i : Nat) : Int), .int ((Sv04.lane p m i : Nat) : Int)])) q (.lst (vi ((List.range i).map fun j => ((pickL m p a b k j : Nat) : Int)) ++ [.int z]))) u5 = some (.lst (vn (lanes p m))) ∧
            (upd (upd H' U (.tup [.int ((i : Nat) : Int), .int ((Sv04.lane p m i : Nat) : Int)])) q (.lst (vi ((List.range i).map fun j => ((pickL m p a b k j : Nat) : Int)) ++ [.int z]))) q = some (.lst (vi ((List.range (i + 1)).map fun j => ((pickL m p a b k j : Nat) : Int)))) := by
          rintro z rfl
          exact ⟨_, _, rfl, Same.put (s6.trans (Same.new hU)) hqH, by rw [upd_ne nuq, upd_ne huU]; exact h1, by rw [upd_ne n5q, upd_ne h5U]; exact h2, by rw [upd_same, mapr]⟩
        have hq' : (upd H' U (.tup [.int ((i : Nat) : Int), .int ((Sv04.lane p m i : Nat) : Int)])) q = some (.lst (vi ((List.range i).map fun j => ((pickL m p a b k j : Nat) : Int)))) := by
          rw [upd_ne hqU]
          exact h3
        have hu' : (upd H' U (.tup [.int ((i : Nat) : Int), .int ((Sv04.lane p m i : Nat) : Int)])) u = some (.lst (vn (lanes a m ++ lanes b m))) := by
          rw [upd_ne huU]
          exact h1
        have hlen : (vi ((List.range i).map fun j => ((pickL m p a b k j : Nat) : Int))).length < sizeLine := by
          rw [mapr_len]
          exact small_lt (by omega)
        refine ⟨U, _, rfl, SqT.of upd_same, rfl, _, _, rfl, _, _, rfl, rfl, ?_⟩
        refine ⟨_, rfl, .inl ⟨rfl, _, SqL.of hq'⟩, _, rfl, _, rfl, k, i, rfl, rfl, _, rfl, ?_⟩
        cases e : k.testBit i with
        | true =>
          have e2 : (vn (lanes a m ++ lanes b m)).length = 2 * (64 / m) := by
            rw [vn_len, List.length_append, lanes_len, lanes_len]
            omega
          have hpos : (0 : Int) < (((vn (lanes a m ++ lanes b m)).length : Nat) : Int) := by
            have := hw.n_pos
            rw [e2]
            omega
          refine tT (by decide) ⟨_, rfl, _, rfl, _, rfl, u, _, rfl, .inl (SqL.of hu'), _, _, rfl, rfl, hpos, u, _, _, _, rfl, rfl, SqL.of hu', at_of (j := Sv04.lane p m i % (2 * (64 / m))) ?_ (vn_get (pick_at a b hw (Sv04.lane p m i))), q, _, _, rfl, rfl, hq', hlen, fin _ ?_⟩
          · rw [e2, Int.natCast_emod]
          · unfold pickL
            rw [e, if_pos rfl]
        | false =>
          refine tF (by decide) ⟨q, _, _, rfl, rfl, hq', hlen, fin _ ?_⟩
          unfold pickL
          rw [e, if_neg (by decide)]
          rfl
      · rintro σ H' ⟨v7, v8, rfl, s6, h1, h2, h3⟩
        rw [vn_len, lanes_len] at h3
        refine ⟨_, rfl, _, rfl, q, _, m, rfl, SqL.of h3, hw.le, by rw [List.length_map, List.length_range]; exact hn64, fun H7 r hr0 hr1 s7 => kk H7 r (s6.free hr0) ?_ (s6.trans s7)⟩
        rw [hr1, shown_picked hw]
theorem scFields : FnScope ["k", "x", "at", "words", "cut", "j", "start"] ["k", "x", "at"] (defScope sFields) := ⟨rfl, rfl, rfl, by decide +kernel, rfl, by decide +kernel, by decide +kernel⟩
theorem ok_fields {f fB fL fW : Addr} {fd fdB fdL fdW : FuncData} (F : Fun K "fields" "fields" sFields f fd) (T : Txt K mg C R) (T2 : Txt2 K mg)
    (GB : FnOk P w K mg base CX0 1 fB fdB ["number", "place"] spBit) (kB : PySem.W.keepIn K (.ref fB) = true) (bB : Binds K fdB ["number", "place"] []) (mB : mg "bit_of" = some (.ref fB))
    (GL : FnOk P w K mg base CX0 2 fL fdL ["row", "w"] (spLanes K)) (kL : PySem.W.keepIn K (.ref fL) = true) (bL : Binds K fdL ["row", "w"] []) (mL : mg "lanes_of" = some (.ref fL))
    (GW : FnOk P w K mg base CX0 1 fW fdW ["word", "s"] spField) (kW : PySem.W.keepIn K (.ref fW) = true) (bW : Binds K fdW ["word", "s"] []) (mW : mg "field_of" = some (.ref fW)) :
    FnOk P w K mg base CX0 3 f fd ["k", "x", "at"] (spFields K) := by
  obtain ⟨_, gWB⟩ := T2.gWB
  obtain ⟨_, gWY⟩ := T2.gWY
  refine F.ok scFields (fun vs H Q E h => ?_) (fun cdv A outer s H vs Q E hr h => ?_)
  · obtain ⟨k, px, pt, x, t, rfl, _⟩ := h
    rfl
  · obtain ⟨k, px, pt, x, t, rfl, hx, ht, kk⟩ := h
    have r1 : Room 1 _ := hr.mono (by decide)
    refine ⟨_, pss_cons (ps_set (i := 3) scFields.nd rfl (Or.inl rfl) (pe_call GL hr rfl mL kL bL .nil pass0 (pa_cons (pv 1) (pa_cons (pe_gi rfl gWY) pa_nil))))
      (pss_cons (ps_set (i := 4) scFields.nd rfl (Or.inl rfl) (pe_lst pa_nil))
      (pss_cons (ps_for PassesOwn.never rfl (pi_enum rfl T.enum_ (pa_cons (pv 2) pa_nil)) (pg_tup rfl (pgs_cons (pg_name (i := 5) scFields.nd rfl (Or.inl rfl)) (pgs_cons (pg_name (i := 6) scFields.nd rfl (Or.inl rfl)) pgs_nil)))
        (pss_one (ps_expr (pe_bm PySem.F.plainAttrs_list PySem.F.slot_list_append PySem.F.type_list_append mt_append (pv 4) (pa_cons (pe_ifExp (pt_cmpR op_eq (pe_call GB r1 rfl mB kB bB .nil pass0 (pa_cons (pv 0) (pa_cons (pv 5) pa_nil))) pe_int (nomark _))
          (pe_call GW r1 rfl mW kW bW .nil pass0 (pa_cons (pe_ix ix_list (pv 3) (pe_op op_fdiv (pv 5) (pe_gi rfl gWY)) (fun _ _ => rfl)) (pa_cons (pe_op op_mod (pv 6) (pe_gi rfl gWB)) pa_nil))) pe_int) pa_nil)))))
      (pss_one (ps_ret (pv 4))))), ?_⟩
    have w8 : IsW 8 := .inr (.inr (.inr rfl))
    refine ⟨_, rfl, px, x, 8, rfl, hx, w8, fun H1 u hu hl1 s1 => ?_⟩
    refine ⟨Nat.zero_le _, fun q hq => ?_⟩
    have s2 := Same.new (o := .lst []) hq
    have s02 := s1.trans s2
    have hqH : H q = none := s1.free hq
    have nuq : u ≠ q := ne_of_none hl1 hq
    refine ⟨_, rfl, pt, _, rfl, s02.seq ht, for_enum (K := K) (a := pt) (xs := vi (shown t)) (fun i σ H' => ∃ v5 v6 : Option V, σ = [some (.int (k : Int)), some (.ref px), some (.ref pt), some (.ref u), some (.ref q), v5, v6] ∧ Same H H' ∧ H' u = some (.lst (vn (lanes x 8))) ∧ H' q = some (.lst (vi ((List.range i).map fun j => ((fieldB x t k j : Nat) : Int)))))
      ⟨none, none, rfl, s02, by rw [upd_ne nuq]; exact hl1, upd_same⟩ (fun i σ H' _ ⟨_, _, _, s5, _⟩ => s5.seq ht) ?_ ?_⟩
    · rintro i y U σ H' hi hU ⟨v5, v6, rfl, s6, h1, h3⟩
      have hi2 : i < 64 := by
        have := (List.getElem?_eq_some_iff.mp hi).1
        rw [vi_len, shown_len] at this
        exact this
      have ey : y = .int ((Sv04.byte t i : Nat) : Int) := by
        rw [vi_at (shown_at t hi2)] at hi
        exact (Option.some.inj hi).symm
      subst ey
      have hqU : q ≠ U := ne_of_none h3 hU
      have huU : u ≠ U := ne_of_none h1 hU
      have hq' : (upd H' U (.tup [.int ((i : Nat) : Int), .int ((Sv04.byte t i : Nat) : Int)])) q = some (.lst (vi ((List.range i).map fun j => ((fieldB x t k j : Nat) : Int)))) := by
        rw [upd_ne hqU]
        exact h3
      have hu' : (upd H' U (.tup [.int ((i : Nat) : Int), .int ((Sv04.byte t i : Nat) : Int)])) u = some (.lst (vn (lanes x 8))) := by
        rw [upd_ne huU]
        exact h1
      have hlen : (vi ((List.range i).map fun j => ((fieldB x t k j : Nat) : Int))).length < sizeLine := by
        rw [mapr_len]
        exact small_lt (by omega)
      have fin : ∀ z : Int, z = ((fieldB x t k i : Nat) : Int) → ∃ v5' v6' : Option V, [some (V.int (k : Int)), some (.ref px), some (.ref pt), some (.ref u), some (.ref q), some (.int ((i : Nat) : Int)), some (.int ((Sv04.byte t i : Nat) : Int))] = [some (.int (k : Int)), some (.ref px), some (.ref pt), some (.ref u), some (.ref q), v5', v6'] ∧
          Same H (upd (upd H' U (.tup [.int ((i : Nat) : Int), .int ((Sv04.byte t i : Nat) : Int)])) q (.lst (vi ((List.range i).map fun j => ((fieldB x t k j : Nat) : Int)) ++ [.int z]))) ∧
          (upd (upd H' U (.tup [.int ((i : Nat) : Int), .int ((Sv04.byte t i : Nat) : Int)])) q (.lst (vi ((List.range i).map fun j => ((fieldB x t k j : Nat) : Int)) ++ [.int z]))) u = some (.lst (vn (lanes x 8))) ∧
          (upd (upd H' U (.tup [.int ((i : Nat) : Int), .int ((Sv04.byte t i : Nat) : Int)])) q (.lst (vi ((List.range i).map fun j => ((fieldB x t k j : Nat) : Int)) ++ [.int z]))) q = some (.lst (vi ((List.range (i + 1)).map fun j => ((fieldB x t k j : Nat) : Int)))) := by
        rintro z rfl
        exact ⟨_, _, rfl, Same.put (s6.trans (Same.new hU)) hqH, by rw [upd_ne nuq, upd_ne huU]; exact h1, by rw [upd_same, mapr]⟩
      refine ⟨U, _, rfl, SqT.of upd_same, rfl, _, _, rfl, _, _, rfl, rfl, ?_⟩
      refine ⟨_, rfl, .inl ⟨rfl, _, SqL.of hq'⟩, _, rfl, _, rfl, k, i, rfl, rfl, _, rfl, ?_⟩
      cases e : k.testBit i with
      | true =>
        refine tT (by decide) ⟨_, rfl, _, rfl, _, _, rfl, rfl, ⟨by decide, by decide⟩, u, _, _, _, rfl, rfl, SqL.of hu', at_of (j := i / 8) (by show ((i : Nat) : Int) / 8 = ((i / 8 : Nat) : Int); omega) (vn_get (lanes_at x (show i / 8 < 64 / 8 by omega))), _, rfl, _, _, rfl, rfl, (by show (0 : Int) < 64; decide),
          Sv04.lane x 8 (i / 8), Sv04.byte t i % 64, ?_, lane_lt64 x w8 _, Nat.mod_lt _ (by decide), q, _, _, rfl, rfl, hq', hlen, fin _ ?_⟩
        · show [V.int ((Sv04.lane x 8 (i / 8) : Nat) : Int), V.int (((Sv04.byte t i : Nat) : Int) % 64)] = _
          rw [Int.natCast_emod]
          rfl
        · unfold fieldB
          rw [e, if_pos rfl]
          rfl
      | false =>
        refine tF (by decide) ⟨q, _, _, rfl, rfl, hq', hlen, fin _ ?_⟩
        unfold fieldB
        rw [e, if_neg (by decide)]
        rfl
    · rintro σ H' ⟨v5, v6, rfl, s6, h1, h3⟩
      rw [vi_len, shown_len] at h3
      refine ⟨_, rfl, kk H' q hqH ?_ s6⟩
      rw [h3, shown_fields]
theorem scProds : FnScope ["left", "right", "x", "y"] ["left", "right"] (defScope sProds) := ⟨rfl, rfl, rfl, by decide +kernel, rfl, by decide +kernel, by decide +kernel⟩
theorem ok_prods {f fS : Addr} {fd fdS : FuncData} (F : Fun K "products_of" "products_of" sProds f fd) (T2 : Txt2 K mg) (GS : FnOk P w K mg base CX0 2 fS fdS ["number", "bits"] spSigned) (kS : PySem.W.keepIn K (.ref fS) = true) (bS : Binds K fdS ["number", "bits"] []) (mS : mg "signed" = some (.ref fS)) :
    FnOk P w K mg base CX0 3 f fd ["left", "right"] (spProds K) := by
  refine F.ok scProds (fun vs H Q E h => ?_) (fun cdv A outer s H vs Q E hr h => ?_)
  · obtain ⟨la, lb, A, B, rfl, _⟩ := h
    rfl
  · obtain ⟨la, lb, A, B, rfl, ha, hb, hAB, hl, h1, h2, k⟩ := h
    refine ⟨_, pss_one (ps_ret (pe_lc (g := gTup K 2 (gCons (gName 2) (gCons (gName 3) gNil))) (own := [("x", 2), ("y", 3)]) rfl scProds.nd (pi_zip rfl T2.zip_ (pa_cons (pv 0) (pa_cons (pv 1) pa_nil))) (blkOk_by (N := ["left", "right", "x", "y"]) (sc := defScope sProds) (by decide +kernel))
      (fun _ _ _ _ _ => pg_tup rfl (pgs_cons (pg_name (i := 2) scProds.nd rfl (Or.inl rfl)) (pgs_cons (pg_name (i := 3) scProds.nd rfl (Or.inl rfl)) pgs_nil))) (fun _ _ _ _ _ => pts_nil)
      (fun _ _ _ _ _ => pe_op op_mul (pv 2) (pe_call GS hr rfl mS kS bS .nil pass0 (pa_cons (pv 3) (pa_cons pe_int pa_nil)))))), ?_⟩
    refine ⟨_, rfl, _, rfl, la, lb, _, _, rfl, ha, hb, fun D hD => lc_zip (K := K) (a := la) (b := lb) (xs := vn A) (ys := vn B) (by rw [vn_len, vn_len, hAB]) (fun i H' => Same H H' ∧ H' D = some (.lst (vi ((prods A B).take i)))) ⟨Same.new hD, upd_same⟩
      (fun i H' _ ⟨s5, _⟩ => ⟨s5.seq ha, s5.seq hb⟩) ?_ ?_⟩
    · rintro i x0 y0 U H' hx0 hy0 hU ⟨s5, hD'⟩
      obtain ⟨x, hx, rfl⟩ := vn_at hx0
      obtain ⟨y, hy, rfl⟩ := vn_at hy0
      have hx2 := h1 x (List.mem_of_getElem? hx)
      have hy2 := h2 y (List.mem_of_getElem? hy)
      have nDU : D ≠ U := ne_of_none hD' hU
      refine ⟨U, _, rfl, SqT.of upd_same, rfl, _, _, rfl, _, _, rfl, rfl, rfl, ⟨_, rfl, _, rfl, y, 8, rfl, by decide, by decide, hy2, _, _, rfl, rfl, .inl ⟨by omega, by omega⟩, _, (by rw [upd_ne nDU]; exact hD'), ?_, Same.put (s5.trans (Same.new hU)) hD, ?_⟩⟩
      · rw [vi_len, List.length_take, prods_len hAB]
        exact small_lt (by omega)
      · rw [upd_same, tk (prods_at hx hy)]
    · rintro H' ⟨s5, hD'⟩
      rw [List.take_of_length_le (by rw [prods_len hAB, vn_len]; exact Nat.le_refl _)] at hD'
      exact k H' D hD hD' s5
theorem scDot : FnScope ["held", "start", "left", "right", "total"] ["held", "start", "left", "right"] (defScope sDot) := ⟨rfl, rfl, rfl, by decide +kernel, rfl, by decide +kernel, by decide +kernel⟩
theorem ok_dot {f fS fP : Addr} {fd fdS fdP : FuncData} (F : Fun K "dot" "dot" sDot f fd) (T2 : Txt2 K mg) (GS : FnOk P w K mg base CX0 2 fS fdS ["number", "bits"] spSigned) (kS : PySem.W.keepIn K (.ref fS) = true) (bS : Binds K fdS ["number", "bits"] []) (mS : mg "signed" = some (.ref fS))
    (GP : FnOk P w K mg base CX0 3 fP fdP ["left", "right"] (spProds K)) (kP : PySem.W.keepIn K (.ref fP) = true) (bP : Binds K fdP ["left", "right"] []) (mP : mg "products_of" = some (.ref fP)) :
    FnOk P w K mg base CX0 4 f fd ["held", "start", "left", "right"] (spDot K) := by
  obtain ⟨_, gDB⟩ := T2.gDB
  obtain ⟨_, gLH⟩ := T2.gLH
  obtain ⟨_, gMH⟩ := T2.gMH
  refine F.ok scDot (fun vs H Q E h => ?_) (fun cdv A outer s H vs Q E hr h => ?_)
  · obtain ⟨held, st, la, lb, A, B, rfl, _⟩ := h
    rfl
  · obtain ⟨held, st, la, lb, A', B, rfl, ha, hb, hAB, hl, h1, h2, hst, k⟩ := h
    have r2 : Room 2 _ := hr.mono (by decide)
    refine ⟨_, pss_cons (ps_set (i := 4) scDot.nd rfl (Or.inl rfl) (pe_op op_add (pe_call GS r2 rfl mS kS bS .nil pass0 (pa_cons (pv 1) (pa_cons (pe_gi rfl gDB) pa_nil)))
        (pe_callB (cr_sum rfl) (by rfl) T2.sum_ boot_sum (pa_cons (pe_call GP hr rfl mP kP bP .nil pass0 (pa_cons (pv 2) (pa_cons (pv 3) pa_nil))) pa_nil))))
      (pss_cons (ps_if (pt_cmpR op_ne (pv 0) pe_int (nomark _)) (pss_one (ps_ret (pe_callB (call_max2 rfl) (by rfl) T2.max_ boot_max (pa_cons (pe_gi rfl gLH) (pa_cons (pe_callB (call_min2 rfl) (by rfl) T2.min_ boot_min (pa_cons (pe_gi rfl gMH) (pa_cons (pv 4) pa_nil))) pa_nil))))) pss_nil)
      (pss_one (ps_ret (pv 4)))), ?_⟩
    refine ⟨_, rfl, st, 32, rfl, by decide, by decide, hst, _, rfl, _, rfl, la, lb, A', B, rfl, ha, hb, hAB, hl, h1, h2, fun H1 p hp hp1 s1 => ⟨p, prods A' B, rfl, SqL.of hp1, _, _, rfl, rfl, ?_⟩⟩
    have kk := k H1 s1
    unfold dotH at kk
    refine ⟨_, rfl, rfl, _, rfl, ?_⟩
    by_cases hh : held = 0
    · rw [if_neg (fun z => z hh)] at kk
      refine tF (by rw [hh]; rfl) ⟨_, rfl, kk⟩
    · rw [if_pos hh] at kk
      refine tT ?_ ⟨_, rfl, _, _, rfl, _, _, rfl, ?_⟩
      · show (!decide (V.int held = V.int 0)) = true
        rw [decide_eq_false (fun z => hh (V.int.inj z))]
        rfl
      · rw [← hold_eq] at kk
        exact kk
theorem scDots : FnScope ["k", "held", "base", "a", "b", "lanes", "j", "start", "here", "end"] ["k", "held", "base", "a", "b"] (defScope sDots) := ⟨rfl, rfl, rfl, by decide +kernel, rfl, by decide +kernel, by decide +kernel⟩
theorem ok_dots {f fB fL fR fD : Addr} {fd fdB fdL fdR fdD : FuncData} (F : Fun K "dots" "dots" sDots f fd) (T : Txt K mg C R) (T2 : Txt2 K mg)
    (GB : FnOk P w K mg base CX0 1 fB fdB ["number", "place"] spBit) (kB : PySem.W.keepIn K (.ref fB) = true) (bB : Binds K fdB ["number", "place"] []) (mB : mg "bit_of" = some (.ref fB))
    (GL : FnOk P w K mg base CX0 2 fL fdL ["row", "w"] (spLanes K)) (kL : PySem.W.keepIn K (.ref fL) = true) (bL : Binds K fdL ["row", "w"] []) (mL : mg "lanes_of" = some (.ref fL))
    (GR : FnOk P w K mg base CX0 2 fR fdR ["lanes", "w"] (spRowLanes K)) (kR : PySem.W.keepIn K (.ref fR) = true) (bR : Binds K fdR ["lanes", "w"] []) (mR : mg "row_of_lanes" = some (.ref fR))
    (GD : FnOk P w K mg base CX0 4 fD fdD ["held", "start", "left", "right"] (spDot K)) (kD : PySem.W.keepIn K (.ref fD) = true) (bD : Binds K fdD ["held", "start", "left", "right"] []) (mD : mg "dot" = some (.ref fD)) :
    FnOk P w K mg base CX0 5 f fd ["k", "held", "base", "a", "b"] (spDots K) := by
  obtain ⟨_, gDY⟩ := T2.gDY
  refine F.ok scDots (fun vs H Q E h => ?_) (fun cdv A outer s H vs Q E hr h => ?_)
  · obtain ⟨k, held, ps, pa, pb, s, a, b, rfl, _⟩ := h
    rfl
  · obtain ⟨k, held, ps, pa, pb, t, a, b, rfl, ht, ha, hb, kk⟩ := h
    have r1 : Room 1 _ := hr.mono (by decide)
    have r2 : Room 2 _ := hr.mono (by decide)
    refine ⟨_, pss_cons (ps_set (i := 5) scDots.nd rfl (Or.inl rfl) (pe_lst pa_nil))
      (pss_cons (ps_for PassesOwn.never rfl (pi_enum rfl T.enum_ (pa_cons (pe_call GL r2 rfl mL kL bL .nil pass0 (pa_cons (pv 2) (pa_cons (pe_gi rfl gDY) pa_nil))) pa_nil)) (pg_tup rfl (pgs_cons (pg_name (i := 6) scDots.nd rfl (Or.inl rfl)) (pgs_cons (pg_name (i := 7) scDots.nd rfl (Or.inl rfl)) pgs_nil)))
        (pss_cons (ps_set (i := 8) scDots.nd rfl (Or.inl rfl) (pe_op op_mul (pv 6) (pe_gi rfl gDY)))
        (pss_cons (ps_set (i := 9) scDots.nd rfl (Or.inl rfl) (pe_op op_add (pv 8) (pe_gi rfl gDY)))
        (pss_one (ps_expr (pe_bm PySem.F.plainAttrs_list PySem.F.slot_list_append PySem.F.type_list_append mt_append (pv 5) (pa_cons (pe_ifExp (pt_cmpR op_eq (pe_call GB r1 rfl mB kB bB .nil pass0 (pa_cons (pv 0) (pa_cons (pv 6) pa_nil))) pe_int (nomark _))
          (pe_call GD hr rfl mD kD bD .nil pass0 (pa_cons (pv 1) (pa_cons (pv 7) (pa_cons (pe_slice sl_list (pv 3) (po_some (pv 8)) (po_some (pv 9))) (pa_cons (pe_slice sl_list (pv 4) (po_some (pv 8)) (po_some (pv 9))) pa_nil))))) (pv 7)) pa_nil)))))))
      (pss_one (ps_ret (pe_call GR r2 rfl mR kR bR .nil pass0 (pa_cons (pv 5) (pa_cons (pe_gi rfl gDY) pa_nil)))))), ?_⟩
    have w4 : IsW 4 := .inr (.inr (.inl rfl))
    refine ⟨Nat.zero_le _, fun q hqH => ?_⟩
    have s1 := Same.new (o := .lst []) hqH
    refine ⟨_, rfl, ps, t, 4, rfl, s1.seq ht, w4, fun H1 u hu hl1 s2 => ?_⟩
    have s02 := s1.trans s2
    have hq1 : H1 q = some (.lst []) := s2 _ _ upd_same
    have nuq : u ≠ q := fun z => by rw [z, upd_same] at hu; cases hu
    refine ⟨u, _, rfl, SqL.of hl1, for_enum (K := K) (a := u) (xs := vn (lanes t 4)) (fun i σ H' => ∃ v6 v7 v8 v9 : Option V, σ = [some (.int (k : Int)), some (.int held), some (.ref ps), some (.ref pa), some (.ref pb), some (.ref q), v6, v7, v8, v9] ∧ Same H H' ∧ H' u = some (.lst (vn (lanes t 4))) ∧ H' q = some (.lst (vi ((List.range i).map (dotZ held t a b k)))))
      ⟨none, none, none, none, rfl, s02, hl1, hq1⟩ (fun i σ H' _ ⟨_, _, _, _, _, _, h5, _⟩ => SqL.of h5) ?_ ?_⟩
    · rintro i y U σ H' hi hU ⟨v6, v7, v8, v9, rfl, s6, h1, h3⟩
      obtain ⟨x, hx, rfl⟩ := vn_at hi
      have hi2 : i < 64 / 4 := by
        have := (List.getElem?_eq_some_iff.mp hx).1
        rw [lanes_len] at this
        exact this
      have hi16 : i < 16 := hi2
      have ex : x = Sv04.lane t 4 i := by
        rw [lanes_at t hi2] at hx
        exact (Option.some.inj hx).symm
      subst ex
      have hqU : q ≠ U := ne_of_none h3 hU
      have huU : u ≠ U := ne_of_none h1 hU
      have sU : Same H' (upd H' U (.tup [.int ((i : Nat) : Int), .int ((Sv04.lane t 4 i : Nat) : Int)])) := Same.new hU
      have hq' := sU _ _ h3
      have hu' := sU _ _ h1
      have hlen : (vi ((List.range i).map (dotZ held t a b k))).length < sizeLine := by
        rw [mapr_len]
        exact small_lt (by omega)
      have c1 : ((i : Nat) : Int) * 4 = ((4 * i : Nat) : Int) := by omega
      have c2 : ((i : Nat) : Int) * 4 + 4 = ((4 * i + 4 : Nat) : Int) := by omega
      refine ⟨U, _, rfl, SqT.of upd_same, rfl, _, _, rfl, _, _, rfl, rfl, ?_⟩
      refine ⟨_, rfl, _, _, rfl, rfl, .inl ⟨by omega, by omega⟩, _, rfl, _, _, rfl, rfl, ?_⟩
      refine ⟨_, rfl, .inl ⟨rfl, _, SqL.of hq'⟩, _, rfl, _, rfl, k, i, rfl, rfl, _, rfl, ?_⟩
      cases e : k.testBit i with
      | true =>
        refine tT (by decide) ⟨_, rfl, _, rfl, _, rfl, _, rfl, _, rfl, _, rfl, _, rfl, pa, _, rfl, (s6.trans sU).seq ha, fun p1 hp1 => ?_⟩
        have sp1 := Same.new (o := .lst (cutV (vi (shown a)) (some (((i : Nat) : Int) * 4)) (some (((i : Nat) : Int) * 4 + 4)))) hp1
        refine ⟨_, rfl, _, rfl, _, rfl, _, rfl, _, rfl, pb, _, rfl, ((s6.trans sU).trans sp1).seq hb, fun p2 hp2 => ?_⟩
        have sp2 := Same.new (o := .lst (cutV (vi (shown b)) (some (((i : Nat) : Int) * 4)) (some (((i : Nat) : Int) * 4 + 4)))) hp2
        have n12 : p1 ≠ p2 := ne_of_none upd_same hp2
        refine ⟨held, Sv04.lane t 4 i, p1, p2, laneBytes a 4 i, laneBytes b 4 i, rfl, SqL.of ?_, SqL.of ?_, by rw [laneBytes_len, laneBytes_len], by rw [laneBytes_len]; decide, laneBytes_lt a 4 i, laneBytes_lt b 4 i, lane_lt t 4 i, fun H3 s9 => ?_⟩
        · rw [upd_ne n12, upd_same, cut_lane a (by omega) c1 c2]
        · rw [upd_same, cut_lane b (by omega) c1 c2]
        · have sA := (sp1.trans sp2).trans s9
          refine ⟨q, _, _, rfl, rfl, sA _ _ hq', hlen, _, _, _, _, rfl, Same.put ((s6.trans sU).trans sA) hqH, by rw [upd_ne nuq]; exact sA _ _ hu', ?_⟩
          rw [upd_same, mapr]
          have ez : dotZ held t a b k i = dotH held (Sv04.signed 32 (Sv04.lane t 4 i) + (prods (laneBytes a 4 i) (laneBytes b 4 i)).sum) := by
            unfold dotZ dotH
            rw [e, if_pos rfl, dot_eq]
          rw [ez]
      | false =>
        refine tF (by decide) ⟨_, rfl, q, _, _, rfl, rfl, hq', hlen, _, _, _, _, rfl, Same.put (s6.trans sU) hqH, by rw [upd_ne nuq]; exact hu', ?_⟩
        rw [upd_same, mapr]
        have ez : dotZ held t a b k i = ((Sv04.lane t 4 i : Nat) : Int) := by
          unfold dotZ
          rw [e, if_neg (by decide)]
        rw [ez]
    · rintro σ H' ⟨v6, v7, v8, v9, rfl, s6, h1, h3⟩
      rw [vn_len, lanes_len] at h3
      refine ⟨_, rfl, q, _, 4, rfl, SqL.of h3, by decide, by rw [List.length_map, List.length_range]; decide, fun H7 r hr0 hr1 s7 => kk H7 r (s6.free hr0) ?_ (s6.trans s7)⟩
      rw [hr1]
      exact congrArg (fun z => some (HO.lst (vi z))) (shown_dots held t a b k)
theorem scMask : FnScope ["w", "none", "a", "b", "common", "x", "y", "wants_none", "mask", "j", "lane"] ["w", "none", "a", "b"] (defScope sMask) := ⟨rfl, rfl, rfl, by decide +kernel, rfl, by decide +kernel, by decide +kernel⟩
theorem ok_mask {f fL : Addr} {fd fdL : FuncData} (F : Fun K "common_mask" "common_mask" sMask f fd) (T : Txt K mg C R) (T2 : Txt2 K mg)
    (GL : FnOk P w K mg base CX0 2 fL fdL ["row", "w"] (spLanes K)) (kL : PySem.W.keepIn K (.ref fL) = true) (bL : Binds K fdL ["row", "w"] []) (mL : mg "lanes_of" = some (.ref fL)) :
    FnOk P w K mg base CX0 3 f fd ["w", "none", "a", "b"] (spMask K) := by
  obtain ⟨tL, gL, hL⟩ := T2.gL
  refine F.ok scMask (fun vs H Q E h => ?_) (fun cdv A outer s H vs Q E hr h => ?_)
  · obtain ⟨n, no, pa, pb, a, b, rfl, _⟩ := h
    rfl
  · obtain ⟨n, no, pa, pb, a, b, rfl, ha, hb, kk⟩ := h
    refine ⟨_, pss_cons (ps_if (pt_cmpR op_notIn_seq (pv 0) (pe_glob (v := .ref tL) rfl gL rfl) (by with_unfolding_all rfl)) (pss_one (ps_ret pe_int)) pss_nil)
      (pss_cons (ps_setLc (g := gTup K 2 (gCons (gName 5) (gCons (gName 6) gNil))) (i := 4) (own := [("x", 5), ("y", 6)]) rfl scMask.nd rfl rfl (sw_true rfl rfl rfl rfl) (pi_zip rfl T2.zip_ (pa_cons (pv 2) (pa_cons (pv 3) pa_nil))) (blkOk_by (N := ["w", "none", "a", "b", "common", "x", "y", "wants_none", "mask", "j", "lane"]) (sc := defScope sMask) (by decide +kernel))
        (fun _ _ _ _ _ => pg_tup rfl (pgs_cons (pg_name (i := 5) scMask.nd rfl (Or.inl rfl)) (pgs_cons (pg_name (i := 6) scMask.nd rfl (Or.inl rfl)) pgs_nil))) (fun _ _ _ _ _ => pts_nil)
        (fun _ _ _ _ _ => pe_op op_and (pv 5) (pv 6)))
      (pss_cons (ps_set (i := 7) scMask.nd rfl (Or.inl rfl) (pe_cmpR op_ne (pv 1) pe_int (nomark _)))
      (pss_cons (ps_set (i := 8) scMask.nd rfl (Or.inl rfl) pe_int)
      (pss_cons (ps_for PassesOwn.never rfl (pi_enum rfl T.enum_ (pa_cons (pe_call GL hr rfl mL kL bL .nil pass0 (pa_cons (pv 4) (pa_cons (pv 0) pa_nil))) pa_nil)) (pg_tup rfl (pgs_cons (pg_name (i := 9) scMask.nd rfl (Or.inl rfl)) (pgs_cons (pg_name (i := 10) scMask.nd rfl (Or.inl rfl)) pgs_nil)))
        (pss_one (ps_if (pt_cmpR op_eq (pe_cmpR op_eq (pv 10) pe_int (nomark _)) (pv 7) (nomark _)) (pss_one (ps_aug (i := 8) scMask.nd rfl (Or.inl rfl) (pe_op op_shl pe_int (pv 9)) ip_add)) pss_nil)))
      (pss_one (ps_ret (pv 8))))))), ?_⟩
    refine ⟨_, rfl, tL, _, rfl, .inr (hL.sq _), rfl, rfl, _, rfl, ite2 (fun h => ?_) (fun h => ?_)⟩
    · have hn : ¬ n ∈ Sv04.widths := fun z => by
        have h' : (!inV (.int n) (vi [1, 2, 4, 8])) = true := h
        rw [inV_w, decide_eq_true z] at h'
        exact absurd h' (by decide)
      have k2 := kk H (Same.refl H)
      rw [if_neg hn] at k2
      exact k2
    · have hn : n ∈ Sv04.widths := by
        by_cases z : n ∈ Sv04.widths
        · exact z
        · have h' : ¬ (!inV (.int n) (vi [1, 2, 4, 8])) = true := h
          rw [inV_w, decide_eq_false z] at h'
          exact absurd rfl h'
      rw [if_pos hn] at kk
      obtain ⟨hw, en⟩ := isW_of hn
      generalize n.toNat = m at hw en kk
      subst en
      have hlen64 : (vi (shown a)).length = (vi (shown b)).length := by rw [vi_len, vi_len, shown_len, shown_len]
      -- common = [x & y for x, y in zip(a, b)]
      refine ⟨_, rfl, _, rfl, pa, pb, _, _, rfl, ha, hb, fun D hD => lc_zip (K := K) (a := pa) (b := pb) (xs := vi (shown a)) (ys := vi (shown b)) hlen64 (fun i H' => Same H H' ∧ H' D = some (.lst (vi ((shown (both a b)).take i)))) ⟨Same.new hD, upd_same⟩
        (fun i H' _ ⟨s5, _⟩ => ⟨s5.seq ha, s5.seq hb⟩) ?_ ?_⟩
      · rintro i x y U H' hx hy hU ⟨s5, hD'⟩
        have hi2 : i < 64 := by
          have := (List.getElem?_eq_some_iff.mp hx).1
          rw [vi_len, shown_len] at this
          exact this
        rw [vi_at (shown_at a hi2)] at hx
        rw [vi_at (shown_at b hi2)] at hy
        have ex := (Option.some.inj hx).symm
        have ey := (Option.some.inj hy).symm
        subst ex ey
        have nDU : D ≠ U := ne_of_none hD' hU
        refine ⟨U, _, rfl, SqT.of upd_same, rfl, _, _, rfl, _, _, rfl, rfl, rfl, ⟨_, rfl, _, rfl, _, _, rfl, rfl, _, (by rw [upd_ne nDU]; exact hD'), ?_, Same.put (s5.trans (Same.new hU)) hD, ?_⟩⟩
        · rw [vi_len, List.length_take, shown_len]
          exact small_lt (by omega)
        · have eb : (shown (both a b))[i]? = some (Builtin.bitAnd ((Sv04.byte a i : Nat) : Int) ((Sv04.byte b i : Nat) : Int)) := by
            rw [and_cc, shown_both, List.getElem?_map, List.getElem?_range hi2]
            rfl
          rw [upd_same, tk eb]
      · rintro H1 ⟨s1, hD1⟩
        rw [vi_len, shown_len, List.take_of_length_le (by rw [shown_len]; exact Nat.le_refl _)] at hD1
        -- wants_none = none != 0; mask = 0
        refine ⟨_, rfl, rfl, ?_⟩
        refine ⟨_, rfl, _, rfl, D, both a b, m, rfl, SqL.of hD1, hw, fun H2 u hu hl2 s2 => ?_⟩
        refine ⟨u, _, rfl, SqL.of hl2, for_enum (K := K) (a := u) (xs := vn (lanes (both a b) m)) (fun i σ H' => ∃ v9 v10 : Option V, σ = [some (.int ((m : Nat) : Int)), some (.int no), some (.ref pa), some (.ref pb), some (.ref D), none, none, some (.bl (!decide (V.int no = V.int 0))), some (.int ((Sv04.maskOf i (fun j => Sv04.common a b m j != decide (no ≠ 0)) : Nat) : Int)), v9, v10] ∧ Same H2 H')
          ⟨none, none, rfl, Same.refl H2⟩ (fun i σ H' _ ⟨_, _, _, s5⟩ => s5.seq (SqL.of hl2)) ?_ ?_⟩
        · rintro i y U σ H' hi hU ⟨v9, v10, rfl, s6⟩
          obtain ⟨x, hx, rfl⟩ := vn_at hi
          have hi2 : i < 64 / m := by
            have := (List.getElem?_eq_some_iff.mp hx).1
            rw [lanes_len] at this
            exact this
          have ex : x = Sv04.lane (both a b) m i := by
            rw [lanes_at _ hi2] at hx
            exact (Option.some.inj hx).symm
          subst ex
          have hi64 : i < 64 := Nat.lt_of_lt_of_le hi2 hw.n_le
          have hc := common_lane a b hw hi2
          have e1 : decide (V.int ((Sv04.lane (both a b) m i : Nat) : Int) = V.int 0) = !Sv04.common a b m i := by
            rw [← hc]
            refine decide_eq_decide.mpr ⟨fun z => ?_, fun z => ?_⟩
            · have := V.int.inj z
              omega
            · rw [z]
              rfl
          have e2 : (!decide (V.int no = V.int 0)) = decide (no ≠ 0) := by
            by_cases z : no = 0
            · rw [decide_eq_true (congrArg V.int z), decide_eq_false (fun q => q z)]
              rfl
            · rw [decide_eq_false (fun q => z (V.int.inj q)), decide_eq_true z]
              rfl
          have e3 : decide (V.bl (decide (V.int ((Sv04.lane (both a b) m i : Nat) : Int) = V.int 0)) = V.bl (!decide (V.int no = V.int 0))) = (Sv04.common a b m i != decide (no ≠ 0)) := by
            rw [e1, e2]
            generalize Sv04.common a b m i = p
            generalize decide (no ≠ 0) = r
            revert p r
            decide
          refine ⟨U, _, rfl, SqT.of upd_same, rfl, _, _, rfl, _, _, rfl, rfl, ?_⟩
          refine ⟨_, rfl, rfl, _, rfl, rfl, _, rfl, ?_⟩
          have em := maskOf_succ i (fun j => Sv04.common a b m j != decide (no ≠ 0))
          cases e : (Sv04.common a b m i != decide (no ≠ 0)) with
          | true =>
            rw [e] at e3 em
            refine tT e3 ⟨_, rfl, _, rfl, _, _, rfl, rfl, ⟨by show (0 : Int) ≤ ((i : Nat) : Int); omega, by show ((i : Nat) : Int) ≤ 1000000; omega, by decide⟩, _, _, rfl, rfl, some (.int ((i : Nat) : Int)), some (.int ((Sv04.lane (both a b) m i : Nat) : Int)), ?_, s6.trans (Same.new hU)⟩
            have ev : ((Sv04.maskOf i (fun j => Sv04.common a b m j != decide (no ≠ 0)) : Nat) : Int) + 1 * 2 ^ ((i : Nat) : Int).toNat = ((Sv04.maskOf (i + 1) (fun j => Sv04.common a b m j != decide (no ≠ 0)) : Nat) : Int) := by
              rw [em, Int.toNat_natCast, Int.natCast_add, Int.natCast_mul, Int.natCast_pow]
              rfl
            rw [← ev]
            rfl
          | false =>
            rw [e] at e3 em
            refine tF e3 ⟨some (.int ((i : Nat) : Int)), some (.int ((Sv04.lane (both a b) m i : Nat) : Int)), ?_, s6.trans (Same.new hU)⟩
            have ev : Sv04.maskOf i (fun j => Sv04.common a b m j != decide (no ≠ 0)) = Sv04.maskOf (i + 1) (fun j => Sv04.common a b m j != decide (no ≠ 0)) := by
              rw [em]
              show _ = _ + 0 * 2 ^ i
              omega
            rw [← ev]
            rfl
        · rintro σ H' ⟨v9, v10, rfl, s6⟩
          rw [vn_len, lanes_len]
          exact ⟨_, rfl, kk H' ((s1.trans s2).trans s6)⟩
end
end Br

end
section
set_option Elab.async false
set_option linter.all false
set_option maxRecDepth 100000
set_option maxHeartbeats 4000000
/-! One call answered: calls 0 to 6. -/
namespace Br
open PySem PySem.Spec PyProof.Rows L2
abbrev sRowCall : Stmt := top 53
abbrev sTallyCall : Stmt := top 54
abbrev sCall : Stmt := top 55
theorem TallyAt.same {C : Addr} {H H' : Hp} {p l : Addr} {c : List Int} (T : TallyAt C H p l c) (e : Same H H') : TallyAt C H' p l c := by
  obtain ⟨dx, h⟩ := T.ob
  exact ⟨⟨dx, e _ _ h⟩, e _ _ T.ls⟩
theorem does_count_num (t : Sv04.Tally) (v : Sv04.Vec) (k : Nat) : told1 (Sv04.does t (.count v k)).2 = [numOf (Sv04.does t (.count v k)).2] := by
  show told1 (if Sv04.stands t v k Sv04.MOST = true then (t, Sv04.Ans.number 2) else (_, Sv04.Ans.number 0)).2 = [numOf (if Sv04.stands t v k Sv04.MOST = true then (t, Sv04.Ans.number 2) else (_, Sv04.Ans.number 0)).2]
  split <;> rfl
theorem does_uncount_num (t : Sv04.Tally) (v : Sv04.Vec) (k : Nat) : told1 (Sv04.does t (.uncount v k)).2 = [numOf (Sv04.does t (.uncount v k)).2] := by
  show told1 (if Sv04.stands t v k 0 = true then (t, Sv04.Ans.number 2) else (_, Sv04.Ans.number 0)).2 = [numOf (if Sv04.stands t v k 0 = true then (t, Sv04.Ans.number 2) else (_, Sv04.Ans.number 0)).2]
  split <;> rfl
theorem RowsAt.get {H : Hp} {as : List Addr} {bs : List (List Int)} (h : RowsAt H as bs) {j : Nat} {b : List Int} (hb : bs[j]? = some b) (hr : IsRow b) : ∃ a, (as.map V.ref)[j]? = some (.ref a) ∧ H a = some (.lst (vi (shown (Sv04Neutral.row b)))) := by
  have hlt : j < as.length := by
    rw [h.len]
    exact (List.getElem?_eq_some_iff.mp hb).1
  have ha := List.getElem?_eq_getElem hlt
  obtain ⟨b', e1, e2⟩ := h.at_ j _ ha
  rw [hb] at e1
  cases e1
  refine ⟨as[j], ?_, ?_⟩
  · rw [List.getElem?_map, ha]
    rfl
  · rw [← padded_eq hr]
    exact e2
/-- the numbers of the calls so far -/
structure Nums (mg : Str → Option Value) : Prop where
  g0 : ∃ t, mg "BEGIN" = some (.int 0 t)
  g1 : ∃ t, mg "COUNT" = some (.int 1 t)
  g2 : ∃ t, mg "UNCOUNT" = some (.int 2 t)
  g3 : ∃ t, mg "LEAST" = some (.int 3 t)
  g4 : ∃ t, mg "BETWEEN" = some (.int 4 t)
  g5 : ∃ t, mg "ODD" = some (.int 5 t)
def spCall7 (C : Addr) : Sp := fun vs H Q E => (∃ (p nl rl : Addr) (i : Int), vs = [.ref p, .int i, .ref nl, .ref rl] ∧ i < 7) ∧ spCall C vs H Q E
section
variable {P : Program} {w : World} {K : PySem.W.Frag} {mg : Str → Option Value} {base : Heap} {C R : Addr}
/-- a number answered, laid in a list of one -/
theorem put_one {H H' : Hp} {p l l' : Addr} {c : List Int} {n : Int} {Q : VK} (hl' : l' = l ∨ H l' = none) (TA : TallyAt C H' p l' c) (B : But [p, l] H H') (hp : ∃ o, H' p = some o) (hl : ∃ o, H' l = some o)
    (k : ∀ (H2 : Hp) (q : Addr), H q = none → q ≠ l' → TallyAt C H2 p l' c → H2 q = some (.lst (vi [n])) → But [p, l] H H2 → Q (.ref q) H2) :
    [V.int n].length ≤ sizeLine ∧ ∀ q, H' q = none → Q (.ref q) (upd H' q (.lst [.int n])) := by
  refine ⟨(by show 1 ≤ sizeLine; decide), fun q hq => ?_⟩
  obtain ⟨o1, h1⟩ := hp
  obtain ⟨o2, h2⟩ := hl
  have hqp : q ≠ p := fun z => by rw [z, h1] at hq; cases hq
  have hql : q ≠ l := fun z => by rw [z, h2] at hq; cases hq
  have hql' : q ≠ l' := fun z => by rw [z, TA.ls] at hq; cases hq
  have hqH : H q = none := by
    cases e : H q with
    | none => rfl
    | some o =>
      rw [B.at2 e hqp hql] at hq
      cases hq
  exact k _ q hqH hql' (TA.same (Same.new hq)) upd_same (B.trans (But.of_same (Same.new hq)))
theorem scTallyCall : FnScope ["tally", "call", "numbers", "rows"] ["tally", "call", "numbers", "rows"] (defScope sTallyCall) := ⟨rfl, rfl, rfl, by decide +kernel, rfl, by decide +kernel, by decide +kernel⟩
theorem ok_call7 {f f0 f1 f2 f3 f4 f5 f6 : Addr} {fd fd0 fd1 fd2 fd3 fd4 fd5 fd6 : FuncData} (F : Fun K "answer_tally_call" "answer_tally_call" sTallyCall f fd) (T : Txt K mg C R) (N : Nums mg)
    (G0 : FnOk P w K mg base CX0 1 f0 fd0 ["self"] (spTBegin C)) (m0 : Meth K C "begin" f0) (b0 : Binds K fd0 ["self"] [])
    (G1 : FnOk P w K mg base CX0 4 f1 fd1 ["self", "k", "ballot"] (spCount K C fun v k => .count v k)) (m1 : Meth K C "count" f1) (b1 : Binds K fd1 ["self", "k", "ballot"] [])
    (G2 : FnOk P w K mg base CX0 4 f2 fd2 ["self", "k", "ballot"] (spCount K C fun v k => .uncount v k)) (m2 : Meth K C "uncount" f2) (b2 : Binds K fd2 ["self", "k", "ballot"] [])
    (G3 : FnOk P w K mg base CX0 2 f3 fd3 ["self", "t"] (spLeast C)) (m3 : Meth K C "least" f3) (b3 : Binds K fd3 ["self", "t"] [])
    (G4 : FnOk P w K mg base CX0 2 f4 fd4 ["self", "lo", "hi"] (spBetween C)) (m4 : Meth K C "between" f4) (b4 : Binds K fd4 ["self", "lo", "hi"] [])
    (G5 : FnOk P w K mg base CX0 2 f5 fd5 ["self"] (spOdd C)) (m5 : Meth K C "odd" f5) (b5 : Binds K fd5 ["self"] [])
    (G6 : FnOk P w K mg base CX0 1 f6 fd6 ["self", "question"] (spOne C)) (m6 : Meth K C "one" f6) (b6 : Binds K fd6 ["self", "question"] []) :
    FnOk P w K mg base CX0 5 f fd ["tally", "call", "numbers", "rows"] (spCall7 C) := by
  obtain ⟨_, g0⟩ := N.g0
  obtain ⟨_, g1⟩ := N.g1
  obtain ⟨_, g2⟩ := N.g2
  obtain ⟨_, g3⟩ := N.g3
  obtain ⟨_, g4⟩ := N.g4
  obtain ⟨_, g5⟩ := N.g5
  refine F.ok scTallyCall (fun vs H Q E h => ?_) (fun cdv A outer s H vs Q E hr h => ?_)
  · obtain ⟨⟨_, _, _, _, rfl, _⟩, _⟩ := h
    rfl
  · obtain ⟨⟨_, _, _, _, ee, hi7⟩, p, l, nl, rl, t, i, nums, as, bs, rfl, TA, hl, hoc, hnl, hrl, RW, k⟩ := h
    have ei : i = _ := V.int.inj (List.cons.inj (List.cons.inj ee).2).1
    rw [← ei] at hi7
    clear ee ei
    have r1 : Room 1 _ := hr.mono (by decide)
    have r2 : Room 2 _ := hr.mono (by decide)
    have r4 : Room 4 _ := hr
    obtain ⟨dx, hp⟩ := TA.ob
    refine ⟨_, pss_cons (ps_if (pt_cmpR op_eq (pv 1) (pe_gi rfl g0) (nomark _)) (pss_one (ps_ret (pe_lst (pa_cons (pe_meth0 (pv 0) T.cl m0 G0 r1 b0 .nil pass0) pa_nil)))) pss_nil)
      (pss_cons (ps_if (pt_cmpR op_eq (pv 1) (pe_gi rfl g1) (nomark _)) (pss_one (ps_ret (pe_lst (pa_cons (pe_meth (pv 0) T.cl m1 G1 r4 b1 .nil pass0 (pa_cons (pe_ix ix_list (pv 2) pe_int (fun _ _ => rfl)) (pa_cons (pe_ix ix_list (pv 3) pe_int (fun _ _ => rfl)) pa_nil))) pa_nil)))) pss_nil)
      (pss_cons (ps_if (pt_cmpR op_eq (pv 1) (pe_gi rfl g2) (nomark _)) (pss_one (ps_ret (pe_lst (pa_cons (pe_meth (pv 0) T.cl m2 G2 r4 b2 .nil pass0 (pa_cons (pe_ix ix_list (pv 2) pe_int (fun _ _ => rfl)) (pa_cons (pe_ix ix_list (pv 3) pe_int (fun _ _ => rfl)) pa_nil))) pa_nil)))) pss_nil)
      (pss_cons (ps_if (pt_cmpR op_eq (pv 1) (pe_gi rfl g3) (nomark _)) (pss_one (ps_ret (pe_meth (pv 0) T.cl m3 G3 r2 b3 .nil pass0 (pa_cons (pe_ix ix_list (pv 2) pe_int (fun _ _ => rfl)) pa_nil)))) pss_nil)
      (pss_cons (ps_if (pt_cmpR op_eq (pv 1) (pe_gi rfl g4) (nomark _)) (pss_one (ps_ret (pe_meth (pv 0) T.cl m4 G4 r2 b4 .nil pass0 (pa_cons (pe_ix ix_list (pv 2) pe_int (fun _ _ => rfl)) (pa_cons (pe_ix ix_list (pv 2) pe_int (fun _ _ => rfl)) pa_nil))))) pss_nil)
      (pss_cons (ps_if (pt_cmpR op_eq (pv 1) (pe_gi rfl g5) (nomark _)) (pss_one (ps_ret (pe_meth0 (pv 0) T.cl m5 G5 r2 b5 .nil pass0))) pss_nil)
      (pss_one (ps_ret (pe_lst (pa_cons (pe_meth (pv 0) T.cl m6 G6 r1 b6 .nil pass0 (pa_cons (pe_ix ix_list (pv 2) pe_int (fun _ _ => rfl)) pa_nil)) pa_nil))))))))), ?_⟩
    have eL : l ≠ p := Ne.symm TA.ne
    cases hoc with
    | begin_ =>
      refine ⟨_, rfl, rfl, _, rfl, tT (by decide) ⟨_, rfl, p, dx, _, rfl, hp, tf_no _ (by decide +kernel), p, l, _, rfl, TA, fun H' l' hl' TA' B => ?_⟩⟩
      rw [step_some call_begin] at k
      obtain ⟨d', h'⟩ := TA'.ob
      exact put_one (.inr hl') TA' (B.mono (by simp)) ⟨_, h'⟩ ⟨_, B.at1 TA.ls eL⟩ fun H2 q a1 a2 a3 a4 a5 => k H2 l' q (.inr hl') a1 a2 a3 a4 a5
    | count hk hb =>
      rename_i kk b
      obtain ⟨a0, e1, e2⟩ := RW.get (j := 0) (b := b) rfl hb
      refine ⟨_, rfl, rfl, _, rfl, tF (by decide) ⟨_, rfl, rfl, _, rfl, tT (by decide) ⟨_, rfl, p, dx, _, rfl, hp, tf_no _ (by decide +kernel), _, rfl, nl, _, _, _, rfl, rfl, SqL.of hnl, at_of (j := 0) rfl rfl, _, rfl, rl, _, _, _, rfl, rfl, SqL.of hrl, at_of (j := 0) rfl e1,
        p, l, a0, t, kk.toNat, Sv04Neutral.row b, ?_, TA, hl, SqL.of e2, fun H' TA' B => ?_⟩⟩⟩
      · have hk0 := hk.1
        show [V.ref p, V.int kk, V.ref a0] = [V.ref p, V.int ((kk.toNat : Nat) : Int), V.ref a0]
        rw [Int.toNat_of_nonneg hk0]
      · rw [step_some call_count] at k
        obtain ⟨d', h'⟩ := TA'.ob
        refine put_one (.inl rfl) TA' (B.mono (by simp)) ⟨_, h'⟩ ⟨_, TA'.ls⟩ fun H2 q a1 a2 a3 a4 a5 => k H2 l q (.inl rfl) a1 a2 a3 ?_ a5
        rw [a4, does_count_num]
    | uncount hk hb =>
      rename_i kk b
      obtain ⟨a0, e1, e2⟩ := RW.get (j := 0) (b := b) rfl hb
      refine ⟨_, rfl, rfl, _, rfl, tF (by decide) ⟨_, rfl, rfl, _, rfl, tF (by decide) ⟨_, rfl, rfl, _, rfl, tT (by decide) ⟨_, rfl, p, dx, _, rfl, hp, tf_no _ (by decide +kernel), _, rfl, nl, _, _, _, rfl, rfl, SqL.of hnl, at_of (j := 0) rfl rfl, _, rfl, rl, _, _, _, rfl, rfl, SqL.of hrl, at_of (j := 0) rfl e1,
        p, l, a0, t, kk.toNat, Sv04Neutral.row b, ?_, TA, hl, SqL.of e2, fun H' TA' B => ?_⟩⟩⟩⟩
      · have hk0 := hk.1
        show [V.ref p, V.int kk, V.ref a0] = [V.ref p, V.int ((kk.toNat : Nat) : Int), V.ref a0]
        rw [Int.toNat_of_nonneg hk0]
      · rw [step_some call_uncount] at k
        obtain ⟨d', h'⟩ := TA'.ob
        refine put_one (.inl rfl) TA' (B.mono (by simp)) ⟨_, h'⟩ ⟨_, TA'.ls⟩ fun H2 q a1 a2 a3 a4 a5 => k H2 l q (.inl rfl) a1 a2 a3 ?_ a5
        rw [a4, does_uncount_num]
    | least ht =>
      rename_i n
      refine ⟨_, rfl, rfl, _, rfl, tF (by decide) ⟨_, rfl, rfl, _, rfl, tF (by decide) ⟨_, rfl, rfl, _, rfl, tF (by decide) ⟨_, rfl, rfl, _, rfl, tT (by decide) ⟨_, rfl, p, dx, _, rfl, hp, tf_no _ (by decide +kernel), _, rfl, nl, _, _, _, rfl, rfl, SqL.of hnl, at_of (j := 0) rfl rfl,
        n, p, l, t, rfl, TA, hl, fun H' r hr0 hr1 s1 => ?_⟩⟩⟩⟩⟩
      rw [step_some call_least] at k
      exact k H' l r (.inl rfl) hr0 (fun z => by rw [z, TA.ls] at hr0; cases hr0) (TA.same s1) hr1 (But.of_same s1)
    | between h1 h2 =>
      rename_i lo hi
      refine ⟨_, rfl, rfl, _, rfl, tF (by decide) ⟨_, rfl, rfl, _, rfl, tF (by decide) ⟨_, rfl, rfl, _, rfl, tF (by decide) ⟨_, rfl, rfl, _, rfl, tF (by decide) ⟨_, rfl, rfl, _, rfl, tT (by decide) ⟨_, rfl, p, dx, _, rfl, hp, tf_no _ (by decide +kernel), _, rfl, nl, _, _, _, rfl, rfl, SqL.of hnl, at_of (j := 0) rfl rfl,
        _, rfl, nl, _, _, _, rfl, rfl, SqL.of hnl, at_of (j := 1) rfl rfl, lo, hi, p, l, t, rfl, TA, hl, fun H' r hr0 hr1 s1 => ?_⟩⟩⟩⟩⟩⟩
      rw [step_some call_between] at k
      exact k H' l r (.inl rfl) hr0 (fun z => by rw [z, TA.ls] at hr0; cases hr0) (TA.same s1) hr1 (But.of_same s1)
    | odd =>
      refine ⟨_, rfl, rfl, _, rfl, tF (by decide) ⟨_, rfl, rfl, _, rfl, tF (by decide) ⟨_, rfl, rfl, _, rfl, tF (by decide) ⟨_, rfl, rfl, _, rfl, tF (by decide) ⟨_, rfl, rfl, _, rfl, tF (by decide) ⟨_, rfl, rfl, _, rfl, tT (by decide) ⟨_, rfl, p, dx, _, rfl, hp, tf_no _ (by decide +kernel),
        p, l, t, rfl, TA, hl, fun H' r hr0 hr1 s1 => ?_⟩⟩⟩⟩⟩⟩⟩
      rw [step_some call_odd] at k
      exact k H' l r (.inl rfl) hr0 (fun z => by rw [z, TA.ls] at hr0; cases hr0) (TA.same s1) hr1 (But.of_same s1)
    | one hq =>
      rename_i n
      refine ⟨_, rfl, rfl, _, rfl, tF (by decide) ⟨_, rfl, rfl, _, rfl, tF (by decide) ⟨_, rfl, rfl, _, rfl, tF (by decide) ⟨_, rfl, rfl, _, rfl, tF (by decide) ⟨_, rfl, rfl, _, rfl, tF (by decide) ⟨_, rfl, rfl, _, rfl, tF (by decide) ⟨_, rfl, p, dx, _, rfl, hp, tf_no _ (by decide +kernel),
        _, rfl, nl, _, _, _, rfl, rfl, SqL.of hnl, at_of (j := 0) rfl rfl, p, l, t, n, rfl, TA, hl, ?_⟩⟩⟩⟩⟩⟩⟩
      rw [step_some call_one] at k
      exact put_one (.inl rfl) TA (But.refl) ⟨_, hp⟩ ⟨_, TA.ls⟩ fun H2 q a1 a2 a3 a4 a5 => k H2 l q (.inl rfl) a1 a2 a3 a4 a5
    | choose hh ha hb hc => exact absurd hi7 (by decide)
    | pick hk hw hp ha hb => exact absurd hi7 (by decide)
    | fields hk hx hs => exact absurd hi7 (by decide)
    | dots hk hh hs ha hb => exact absurd hi7 (by decide)
    | tests hw hn ha hb => exact absurd hi7 (by decide)
    | join ha hb hn => exact absurd hi7 (by decide)
end
/-! ### calls 7 to 12 -/
def spRow (K : PySem.W.Frag) : Sp := fun vs H Q _ => ∃ (nl rl : Addr) (t : Sv04.Tally) (i : Int) (nums : List Int) (as : List Addr) (bs : List (List Int)), vs = [.int i, .ref nl, .ref rl] ∧ 7 ≤ i ∧ Ok ((i :: nums) :: bs) ∧ H nl = some (.lst (vi nums)) ∧ H rl = some (.lst (as.map V.ref)) ∧ RowsAt H as bs ∧
  ∀ (H' : Hp) (q : Addr), H q = none → H' q = some (.lst (vi (Sv04Neutral.step t ((i :: nums) :: bs)).2)) → Same H H' → Q (.ref q) H'
/-- calls 7 to 12 leave the tally -/
theorem step_row {t : Sv04.Tally} {i : Int} {nums : List Int} {bs : List (List Int)} (h : Ok ((i :: nums) :: bs)) (h7 : 7 ≤ i) : (Sv04Neutral.step t ((i :: nums) :: bs)).1 = t := by
  cases h with
  | begin_ => exact absurd h7 (by decide)
  | count => exact absurd h7 (by decide)
  | uncount => exact absurd h7 (by decide)
  | least => exact absurd h7 (by decide)
  | between => exact absurd h7 (by decide)
  | odd => exact absurd h7 (by decide)
  | one => exact absurd h7 (by decide)
  | choose => rw [step_some call_choose]; rfl
  | pick => rw [step_some call_pick]; rfl
  | fields => rw [step_some call_fields]; rfl
  | dots => rw [step_some call_dots]; rfl
  | tests => rw [step_some call_tests]; rfl
  | join => rw [step_some call_join]; rfl
theorem word_lt {k : Int} (h : IsWord k) : k.toNat < 2 ^ 64 := by
  have := h.2
  have := h.1
  omega
theorem word_int {k : Int} (h : IsWord k) : ((k.toNat : Nat) : Int) = k := Int.toNat_of_nonneg h.1
section
variable {P : Program} {w : World} {K : PySem.W.Frag} {mg : Str → Option Value} {base : Heap} {C R : Addr}
theorem scRowCall : FnScope ["call", "numbers", "rows"] ["call", "numbers", "rows"] (defScope sRowCall) := ⟨rfl, rfl, rfl, by decide +kernel, rfl, by decide +kernel, by decide +kernel⟩
theorem ok_rowCall {f f7 f8 f9 f10 f11 f12 : Addr} {fd fd7 fd8 fd9 fd10 fd11 fd12 : FuncData} (F : Fun K "answer_row_call" "answer_row_call" sRowCall f fd) (T2 : Txt2 K mg)
    (G7 : FnOk P w K mg base CX0 2 f7 fd7 ["how", "a", "b", "c"] (spChoose K)) (k7 : PySem.W.keepIn K (.ref f7) = true) (b7 : Binds K fd7 ["how", "a", "b", "c"] []) (m7 : mg "choose" = some (.ref f7))
    (G8 : FnOk P w K mg base CX0 3 f8 fd8 ["k", "w", "places", "a", "b"] (spPick K)) (k8 : PySem.W.keepIn K (.ref f8) = true) (b8 : Binds K fd8 ["k", "w", "places", "a", "b"] []) (m8 : mg "pick" = some (.ref f8))
    (G9 : FnOk P w K mg base CX0 3 f9 fd9 ["k", "x", "at"] (spFields K)) (k9 : PySem.W.keepIn K (.ref f9) = true) (b9 : Binds K fd9 ["k", "x", "at"] []) (m9 : mg "fields" = some (.ref f9))
    (G10 : FnOk P w K mg base CX0 5 f10 fd10 ["k", "held", "base", "a", "b"] (spDots K)) (k10 : PySem.W.keepIn K (.ref f10) = true) (b10 : Binds K fd10 ["k", "held", "base", "a", "b"] []) (m10 : mg "dots" = some (.ref f10))
    (G11 : FnOk P w K mg base CX0 3 f11 fd11 ["w", "none", "a", "b"] (spMask K)) (k11 : PySem.W.keepIn K (.ref f11) = true) (b11 : Binds K fd11 ["w", "none", "a", "b"] []) (m11 : mg "common_mask" = some (.ref f11))
    (G12 : FnOk P w K mg base CX0 1 f12 fd12 ["a", "b", "n"] spJoin) (k12 : PySem.W.keepIn K (.ref f12) = true) (b12 : Binds K fd12 ["a", "b", "n"] []) (m12 : mg "join_bits" = some (.ref f12)) :
    FnOk P w K mg base CX0 6 f fd ["call", "numbers", "rows"] (spRow K) := by
  obtain ⟨_, g7⟩ := T2.c7
  obtain ⟨_, g8⟩ := T2.c8
  obtain ⟨_, g9⟩ := T2.c9
  obtain ⟨_, g10⟩ := T2.c10
  obtain ⟨_, g11⟩ := T2.c11
  refine F.ok scRowCall (fun vs H Q E h => ?_) (fun cdv A outer s H vs Q E hr h => ?_)
  · obtain ⟨nl, rl, t, i, nums, as, bs, rfl, _⟩ := h
    rfl
  · obtain ⟨nl, rl, t, i, nums, as, bs, rfl, h7, hoc, hnl, hrl, RW, k⟩ := h
    have r1 : Room 1 _ := hr.mono (by decide)
    have r2 : Room 2 _ := hr.mono (by decide)
    have r3 : Room 3 _ := hr.mono (by decide)
    refine ⟨_, pss_cons (ps_if (pt_cmpR op_eq (pv 0) (pe_gi rfl g7) (nomark _)) (pss_one (ps_ret (pe_call G7 r2 rfl m7 k7 b7 .nil pass0 (pa_cons (pe_ix ix_list (pv 1) pe_int (fun _ _ => rfl)) (pa_cons (pe_ix ix_list (pv 2) pe_int (fun _ _ => rfl)) (pa_cons (pe_ix ix_list (pv 2) pe_int (fun _ _ => rfl)) (pa_cons (pe_ix ix_list (pv 2) pe_int (fun _ _ => rfl)) pa_nil))))))) pss_nil)
      (pss_cons (ps_if (pt_cmpR op_eq (pv 0) (pe_gi rfl g8) (nomark _)) (pss_one (ps_ret (pe_call G8 r3 rfl m8 k8 b8 .nil pass0 (pa_cons (pe_ix ix_list (pv 1) pe_int (fun _ _ => rfl)) (pa_cons (pe_ix ix_list (pv 1) pe_int (fun _ _ => rfl)) (pa_cons (pe_ix ix_list (pv 2) pe_int (fun _ _ => rfl)) (pa_cons (pe_ix ix_list (pv 2) pe_int (fun _ _ => rfl)) (pa_cons (pe_ix ix_list (pv 2) pe_int (fun _ _ => rfl)) pa_nil)))))))) pss_nil)
      (pss_cons (ps_if (pt_cmpR op_eq (pv 0) (pe_gi rfl g9) (nomark _)) (pss_one (ps_ret (pe_call G9 r3 rfl m9 k9 b9 .nil pass0 (pa_cons (pe_ix ix_list (pv 1) pe_int (fun _ _ => rfl)) (pa_cons (pe_ix ix_list (pv 2) pe_int (fun _ _ => rfl)) (pa_cons (pe_ix ix_list (pv 2) pe_int (fun _ _ => rfl)) pa_nil)))))) pss_nil)
      (pss_cons (ps_if (pt_cmpR op_eq (pv 0) (pe_gi rfl g10) (nomark _)) (pss_one (ps_ret (pe_call G10 hr rfl m10 k10 b10 .nil pass0 (pa_cons (pe_ix ix_list (pv 1) pe_int (fun _ _ => rfl)) (pa_cons (pe_ix ix_list (pv 1) pe_int (fun _ _ => rfl)) (pa_cons (pe_ix ix_list (pv 2) pe_int (fun _ _ => rfl)) (pa_cons (pe_ix ix_list (pv 2) pe_int (fun _ _ => rfl)) (pa_cons (pe_ix ix_list (pv 2) pe_int (fun _ _ => rfl)) pa_nil)))))))) pss_nil)
      (pss_cons (ps_if (pt_cmpR op_eq (pv 0) (pe_gi rfl g11) (nomark _)) (pss_one (ps_ret (pe_lst (pa_cons (pe_call G11 r3 rfl m11 k11 b11 .nil pass0 (pa_cons (pe_ix ix_list (pv 1) pe_int (fun _ _ => rfl)) (pa_cons (pe_ix ix_list (pv 1) pe_int (fun _ _ => rfl)) (pa_cons (pe_ix ix_list (pv 2) pe_int (fun _ _ => rfl)) (pa_cons (pe_ix ix_list (pv 2) pe_int (fun _ _ => rfl)) pa_nil))))) pa_nil)))) pss_nil)
      (pss_one (ps_ret (pe_lst (pa_cons (pe_call G12 r1 rfl m12 k12 b12 .nil pass0 (pa_cons (pe_ix ix_list (pv 1) pe_int (fun _ _ => rfl)) (pa_cons (pe_ix ix_list (pv 1) pe_int (fun _ _ => rfl)) (pa_cons (pe_ix ix_list (pv 1) pe_int (fun _ _ => rfl)) pa_nil)))) pa_nil)))))))), ?_⟩
    cases hoc with
    | begin_ => exact absurd h7 (by decide)
    | count => exact absurd h7 (by decide)
    | uncount => exact absurd h7 (by decide)
    | least => exact absurd h7 (by decide)
    | between => exact absurd h7 (by decide)
    | odd => exact absurd h7 (by decide)
    | one => exact absurd h7 (by decide)
    | choose hh ha hb hc =>
      rename_i how a b c
      obtain ⟨a0, e0, f0⟩ := RW.get (j := 0) (b := a) rfl ha
      obtain ⟨a1, e1, f1⟩ := RW.get (j := 1) (b := b) rfl hb
      obtain ⟨a2, e2, f2⟩ := RW.get (j := 2) (b := c) rfl hc
      refine ⟨_, rfl, rfl, _, rfl, tT (by decide) ⟨_, rfl, nl, _, _, _, rfl, rfl, SqL.of hnl, at_of (j := 0) rfl rfl, _, rfl, rl, _, _, _, rfl, rfl, SqL.of hrl, at_of (j := 0) rfl e0, _, rfl, rl, _, _, _, rfl, rfl, SqL.of hrl, at_of (j := 1) rfl e1, _, rfl, rl, _, _, _, rfl, rfl, SqL.of hrl, at_of (j := 2) rfl e2,
        how, a0, a1, a2, Sv04Neutral.row a, Sv04Neutral.row b, Sv04Neutral.row c, rfl, SqL.of f0, SqL.of f1, SqL.of f2, fun H' p hp hp1 s1 => ?_⟩⟩
      rw [step_some call_choose] at k
      exact k H' p hp hp1 s1
    | pick hk hw hp ha hb =>
      rename_i kk n p a b
      obtain ⟨a0, e0, f0⟩ := RW.get (j := 0) (b := p) rfl hp
      obtain ⟨a1, e1, f1⟩ := RW.get (j := 1) (b := a) rfl ha
      obtain ⟨a2, e2, f2⟩ := RW.get (j := 2) (b := b) rfl hb
      refine ⟨_, rfl, rfl, _, rfl, tF (by decide) ⟨_, rfl, rfl, _, rfl, tT (by decide) ⟨_, rfl, nl, _, _, _, rfl, rfl, SqL.of hnl, at_of (j := 0) rfl rfl, _, rfl, nl, _, _, _, rfl, rfl, SqL.of hnl, at_of (j := 1) rfl rfl, _, rfl, rl, _, _, _, rfl, rfl, SqL.of hrl, at_of (j := 0) rfl e0, _, rfl, rl, _, _, _, rfl, rfl, SqL.of hrl, at_of (j := 1) rfl e1, _, rfl, rl, _, _, _, rfl, rfl, SqL.of hrl, at_of (j := 2) rfl e2,
        kk.toNat, n, a0, a1, a2, Sv04Neutral.row p, Sv04Neutral.row a, Sv04Neutral.row b, ?_, SqL.of f0, SqL.of f1, SqL.of f2, fun H' p hp hp1 s1 => ?_⟩⟩⟩
      · rw [word_int hk]
        rfl
      · rw [step_some call_pick] at k
        exact k H' p hp hp1 s1
    | fields hk hx hs =>
      rename_i kk x s
      obtain ⟨a0, e0, f0⟩ := RW.get (j := 0) (b := x) rfl hx
      obtain ⟨a1, e1, f1⟩ := RW.get (j := 1) (b := s) rfl hs
      refine ⟨_, rfl, rfl, _, rfl, tF (by decide) ⟨_, rfl, rfl, _, rfl, tF (by decide) ⟨_, rfl, rfl, _, rfl, tT (by decide) ⟨_, rfl, nl, _, _, _, rfl, rfl, SqL.of hnl, at_of (j := 0) rfl rfl, _, rfl, rl, _, _, _, rfl, rfl, SqL.of hrl, at_of (j := 0) rfl e0, _, rfl, rl, _, _, _, rfl, rfl, SqL.of hrl, at_of (j := 1) rfl e1,
        kk.toNat, a0, a1, Sv04Neutral.row x, Sv04Neutral.row s, ?_, SqL.of f0, SqL.of f1, fun H' p hp hp1 s1 => ?_⟩⟩⟩⟩
      · rw [word_int hk]
        rfl
      · rw [step_some call_fields] at k
        exact k H' p hp hp1 s1
    | dots hk hh hs ha hb =>
      rename_i kk hd s a b
      obtain ⟨a0, e0, f0⟩ := RW.get (j := 0) (b := s) rfl hs
      obtain ⟨a1, e1, f1⟩ := RW.get (j := 1) (b := a) rfl ha
      obtain ⟨a2, e2, f2⟩ := RW.get (j := 2) (b := b) rfl hb
      refine ⟨_, rfl, rfl, _, rfl, tF (by decide) ⟨_, rfl, rfl, _, rfl, tF (by decide) ⟨_, rfl, rfl, _, rfl, tF (by decide) ⟨_, rfl, rfl, _, rfl, tT (by decide) ⟨_, rfl, nl, _, _, _, rfl, rfl, SqL.of hnl, at_of (j := 0) rfl rfl, _, rfl, nl, _, _, _, rfl, rfl, SqL.of hnl, at_of (j := 1) rfl rfl, _, rfl, rl, _, _, _, rfl, rfl, SqL.of hrl, at_of (j := 0) rfl e0, _, rfl, rl, _, _, _, rfl, rfl, SqL.of hrl, at_of (j := 1) rfl e1, _, rfl, rl, _, _, _, rfl, rfl, SqL.of hrl, at_of (j := 2) rfl e2,
        kk.toNat, hd, a0, a1, a2, Sv04Neutral.row s, Sv04Neutral.row a, Sv04Neutral.row b, ?_, SqL.of f0, SqL.of f1, SqL.of f2, fun H' p hp hp1 s1 => ?_⟩⟩⟩⟩⟩
      · rw [word_int hk]
        rfl
      · rw [step_some call_dots] at k
        exact k H' p hp hp1 s1
    | tests hw hn ha hb =>
      rename_i n no a b
      obtain ⟨a0, e0, f0⟩ := RW.get (j := 0) (b := a) rfl ha
      obtain ⟨a1, e1, f1⟩ := RW.get (j := 1) (b := b) rfl hb
      refine ⟨_, rfl, rfl, _, rfl, tF (by decide) ⟨_, rfl, rfl, _, rfl, tF (by decide) ⟨_, rfl, rfl, _, rfl, tF (by decide) ⟨_, rfl, rfl, _, rfl, tF (by decide) ⟨_, rfl, rfl, _, rfl, tT (by decide) ⟨_, rfl, nl, _, _, _, rfl, rfl, SqL.of hnl, at_of (j := 0) rfl rfl, _, rfl, nl, _, _, _, rfl, rfl, SqL.of hnl, at_of (j := 1) rfl rfl, _, rfl, rl, _, _, _, rfl, rfl, SqL.of hrl, at_of (j := 0) rfl e0, _, rfl, rl, _, _, _, rfl, rfl, SqL.of hrl, at_of (j := 1) rfl e1,
        n, no, a0, a1, Sv04Neutral.row a, Sv04Neutral.row b, rfl, SqL.of f0, SqL.of f1, fun H' s1 => ⟨(by show 1 ≤ sizeLine; decide), fun q hq => ?_⟩⟩⟩⟩⟩⟩⟩
      rw [step_some call_tests] at k
      exact k _ q (s1.free hq) upd_same (s1.trans (Same.new hq))
    | join ha hb hn =>
      rename_i a b n
      refine ⟨_, rfl, rfl, _, rfl, tF (by decide) ⟨_, rfl, rfl, _, rfl, tF (by decide) ⟨_, rfl, rfl, _, rfl, tF (by decide) ⟨_, rfl, rfl, _, rfl, tF (by decide) ⟨_, rfl, rfl, _, rfl, tF (by decide) ⟨_, rfl, nl, _, _, _, rfl, rfl, SqL.of hnl, at_of (j := 0) rfl rfl, _, rfl, nl, _, _, _, rfl, rfl, SqL.of hnl, at_of (j := 1) rfl rfl, _, rfl, nl, _, _, _, rfl, rfl, SqL.of hnl, at_of (j := 2) rfl rfl,
        a.toNat, b.toNat, n, ?_, word_lt ha, word_lt hb, (by show 1 ≤ sizeLine; decide), fun q hq => ?_⟩⟩⟩⟩⟩⟩
      · rw [word_int ha, word_int hb]
        rfl
      · rw [step_some call_join] at k
        exact k _ q hq upd_same (Same.new hq)
theorem scCall : FnScope ["tally", "call", "numbers", "rows"] ["tally", "call", "numbers", "rows"] (defScope sCall) := ⟨rfl, rfl, rfl, by decide +kernel, rfl, by decide +kernel, by decide +kernel⟩
theorem ok_callAll {f fT fR : Addr} {fd fdT fdR : FuncData} (F : Fun K "answer_call" "answer_call" sCall f fd) (T2 : Txt2 K mg)
    (GT : FnOk P w K mg base CX0 5 fT fdT ["tally", "call", "numbers", "rows"] (spCall7 C)) (kT : PySem.W.keepIn K (.ref fT) = true) (bT : Binds K fdT ["tally", "call", "numbers", "rows"] []) (mT : mg "answer_tally_call" = some (.ref fT))
    (GR : FnOk P w K mg base CX0 6 fR fdR ["call", "numbers", "rows"] (spRow K)) (kR : PySem.W.keepIn K (.ref fR) = true) (bR : Binds K fdR ["call", "numbers", "rows"] []) (mR : mg "answer_row_call" = some (.ref fR)) :
    FnOk P w K mg base CX0 7 f fd ["tally", "call", "numbers", "rows"] (spCall C) := by
  obtain ⟨_, g7⟩ := T2.c7
  refine F.ok scCall (fun vs H Q E h => ?_) (fun cdv A outer s H vs Q E hr h => ?_)
  · obtain ⟨p, l, nl, rl, t, i, nums, as, bs, rfl, _⟩ := h
    rfl
  · obtain ⟨p, l, nl, rl, t, i, nums, as, bs, rfl, TA, hl, hoc, hnl, hrl, RW, k⟩ := h
    have r5 : Room 5 _ := hr.mono (by decide)
    refine ⟨_, pss_cons (ps_if (pt_cmpR op_ge (pv 1) (pe_gi rfl g7) (nomark _)) (pss_one (ps_ret (pe_call GR hr rfl mR kR bR .nil pass0 (pa_cons (pv 1) (pa_cons (pv 2) (pa_cons (pv 3) pa_nil)))))) pss_nil)
      (pss_one (ps_ret (pe_call GT r5 rfl mT kT bT .nil pass0 (pa_cons (pv 0) (pa_cons (pv 1) (pa_cons (pv 2) (pa_cons (pv 3) pa_nil))))))), ?_⟩
    refine ⟨_, rfl, _, _, rfl, rfl, _, rfl, ite2 (fun h => ?_) (fun h => ?_)⟩
    · have h7 : 7 ≤ i := of_decide_eq_true h
      refine ⟨_, rfl, _, rfl, _, rfl, nl, rl, t, i, nums, as, bs, rfl, h7, hoc, hnl, hrl, RW, fun H' q hq hq1 s1 => ?_⟩
      refine k H' l q (.inl rfl) hq (fun z => by rw [z, TA.ls] at hq; cases hq) ?_ hq1 (But.of_same s1)
      rw [step_row hoc h7]
      exact TA.same s1
    · have h7 : ¬ 7 ≤ i := fun z => h (decide_eq_true z)
      exact ⟨_, rfl, _, rfl, _, rfl, _, rfl, ⟨p, nl, rl, i, rfl, by omega⟩, p, l, nl, rl, t, i, nums, as, bs, rfl, TA, hl, hoc, hnl, hrl, RW, k⟩
end
theorem shaped : Shaped [(0, [0, 0]), (1, [1, 1]), (2, [1, 1]), (3, [1, 0]), (4, [2, 0]), (5, [0, 0]), (6, [1, 0]), (7, [1, 3]), (8, [2, 3]), (9, [1, 2]), (10, [2, 3]), (11, [2, 2]), (12, [3, 0])] := by
  intro c h
  cases h with
  | begin_ => exact ⟨_, _, _, rfl, rfl, by simp⟩
  | odd => exact ⟨_, _, _, rfl, rfl, by simp⟩
  | least ht => exact ⟨_, _, _, rfl, rfl, by simp⟩
  | between h1 h2 => exact ⟨_, _, _, rfl, rfl, by simp⟩
  | one hq => exact ⟨_, _, _, rfl, rfl, by simp⟩
  | join ha hb hn => exact ⟨_, _, _, rfl, rfl, by simp⟩
  | count hk hb => exact ⟨_, _, _, rfl, rfl, by simpa using hb⟩
  | uncount hk hb => exact ⟨_, _, _, rfl, rfl, by simpa using hb⟩
  | choose hh ha hb hc => exact ⟨_, _, _, rfl, rfl, by simpa using ⟨ha, hb, hc⟩⟩
  | pick hk hw hp ha hb => exact ⟨_, _, _, rfl, rfl, by simpa using ⟨hp, ha, hb⟩⟩
  | fields hk hx hs => exact ⟨_, _, _, rfl, rfl, by simpa using ⟨hx, hs⟩⟩
  | dots hk hh hs ha hb => exact ⟨_, _, _, rfl, rfl, by simpa using ⟨hs, ha, hb⟩⟩
  | tests hw hn ha hb => exact ⟨_, _, _, rfl, rfl, by simpa using ⟨ha, hb⟩⟩
end Br

end
section
set_option Elab.async false
set_option linter.all false
set_option maxRecDepth 100000
set_option maxHeartbeats 4000000
namespace Br
open PySem PySem.Spec PyProof.Rows L2
abbrev s_bit_of : Stmt := top 32
abbrev s_row_of : Stmt := top 33
abbrev s_number_of : Stmt := top 34
abbrev s_bytes_of : Stmt := top 35
abbrev s_lanes_of : Stmt := top 36
abbrev s_row_of_lanes : Stmt := top 37
abbrev s_signed : Stmt := top 38
abbrev s_is_marked : Stmt := top 39
abbrev s_marked_questions : Stmt := top 40
abbrev s_Tally_init : Stmt := inClass (top 41) 0
abbrev s_Tally_begin : Stmt := inClass (top 41) 1
abbrev s_Tally_count : Stmt := inClass (top 41) 2
abbrev s_Tally_uncount : Stmt := inClass (top 41) 3
abbrev s_Tally_step_all : Stmt := inClass (top 41) 4
abbrev s_Tally_least : Stmt := inClass (top 41) 5
abbrev s_Tally_between : Stmt := inClass (top 41) 6
abbrev s_Tally_odd : Stmt := inClass (top 41) 7
abbrev s_Tally_one : Stmt := inClass (top 41) 8
abbrev s_chosen : Stmt := top 42
abbrev s_choose : Stmt := top 43
abbrev s_pick : Stmt := top 44
abbrev s_field_of : Stmt := top 45
abbrev s_fields : Stmt := top 46
abbrev s_products_of : Stmt := top 47
abbrev s_dot : Stmt := top 48
abbrev s_dots : Stmt := top 49
abbrev s_common_mask : Stmt := top 50
abbrev s_join_bits : Stmt := top 51
abbrev s_Reader_init : Stmt := inClass (top 52) 0
abbrev s_Reader_is_done : Stmt := inClass (top 52) 1
abbrev s_Reader_take_numbers : Stmt := inClass (top 52) 2
abbrev s_Reader_take_number : Stmt := inClass (top 52) 3
abbrev s_Reader_take_row : Stmt := inClass (top 52) 4
abbrev s_answer_row_call : Stmt := top 53
abbrev s_answer_tally_call : Stmt := top 54
abbrev s_answer_call : Stmt := top 55
abbrev s_next_answer : Stmt := top 56
abbrev s_answers : Stmt := top 57
theorem len1 {us : List Value} (h : us.length = 1) : ∃ a, us = [a] := by
  cases us with
  | nil => cases h
  | cons a us =>
    cases us with
    | nil => exact ⟨a, rfl⟩
    | cons b us => exact absurd (Nat.succ.inj h) (Nat.succ_ne_zero _)
theorem len2 {us : List Value} (h : us.length = 2) : ∃ a b, us = [a, b] := by
  cases us with
  | nil => cases h
  | cons a us =>
    obtain ⟨b, rfl⟩ := len1 (Nat.succ.inj h)
    exact ⟨a, b, rfl⟩
theorem len3 {us : List Value} (h : us.length = 3) : ∃ a b c, us = [a, b, c] := by
  cases us with
  | nil => cases h
  | cons a us =>
    obtain ⟨b, c, rfl⟩ := len2 (Nat.succ.inj h)
    exact ⟨a, b, c, rfl⟩
theorem len4 {us : List Value} (h : us.length = 4) : ∃ a b c d, us = [a, b, c, d] := by
  cases us with
  | nil => cases h
  | cons a us =>
    obtain ⟨b, c, d, rfl⟩ := len3 (Nat.succ.inj h)
    exact ⟨a, b, c, d, rfl⟩
theorem len5 {us : List Value} (h : us.length = 5) : ∃ a b c d e, us = [a, b, c, d, e] := by
  cases us with
  | nil => cases h
  | cons a us =>
    obtain ⟨b, c, d, e, rfl⟩ := len4 (Nat.succ.inj h)
    exact ⟨a, b, c, d, e, rfl⟩
theorem all_mk {P : Program} {w : World} {K : PySem.W.Frag} {h : Heap} {mg : Str → Option Value} {fa : Addr} (X : K.In h) (G : h.Ns mainGlobals mg) (hfa : mg "answers" = some (.ref fa))
    {C_Tally : Addr}
    {C_Reader : Addr}
    {tk_QUESTIONS : Tok}
    {tk_ROW_BYTES : Tok}
    {tk_MOST_COUNTED : Tok}
    {tk_WORD_BITS : Tok}
    {tk_WORD_BYTES : Tok}
    {tk_WORD_MASK : Tok}
    {tk_DOT_BITS : Tok}
    {tk_DOT_BYTES : Tok}
    {tk_LEAST_HELD : Tok}
    {tk_MOST_HELD : Tok}
    {tk_DONE : Tok}
    {tk_REFUSED : Tok}
    {tk_NO_SUCH_QUESTION : Tok}
    {tk_BEGIN : Tok}
    {tk_COUNT : Tok}
    {tk_UNCOUNT : Tok}
    {tk_LEAST : Tok}
    {tk_BETWEEN : Tok}
    {tk_ODD : Tok}
    {tk_CHOOSE : Tok}
    {tk_PICK : Tok}
    {tk_FIELDS : Tok}
    {tk_DOTS : Tok}
    {tk_TESTS : Tok}
    {tk_MAJORITY : Tok}
    {tk_BY_THE_FIRST : Tok}
    {tk_ODD_MANY : Tok}
    {tk_JUST_ONE : Tok}
    {tk_ALL_THE_SAME : Tok}
    {t_LANE_WIDTHS : Addr} {od_LANE_WIDTHS : Option Addr} {n_LANE_WIDTHS : Nat} {sl_LANE_WIDTHS : Array (Option Value)} {u_LANE_WIDTHS_0 : Tok} {u_LANE_WIDTHS_1 : Tok} {u_LANE_WIDTHS_2 : Tok} {u_LANE_WIDTHS_3 : Tok}
    {f_bit_of : Addr} {od_bit_of an_bit_of : Option Addr} {sl_bit_of : Array (Option Value)} {oc_bit_of kV_bit_of dc_bit_of pm_bit_of cd_bit_of ct_bit_of : Value}
    {f_row_of : Addr} {od_row_of an_row_of : Option Addr} {sl_row_of : Array (Option Value)} {oc_row_of kV_row_of dc_row_of pm_row_of cd_row_of ct_row_of : Value}
    {f_number_of : Addr} {od_number_of an_number_of : Option Addr} {sl_number_of : Array (Option Value)} {oc_number_of kV_number_of dc_number_of pm_number_of cd_number_of ct_number_of : Value}
    {f_bytes_of : Addr} {od_bytes_of an_bytes_of : Option Addr} {sl_bytes_of : Array (Option Value)} {oc_bytes_of kV_bytes_of dc_bytes_of pm_bytes_of cd_bytes_of ct_bytes_of : Value}
    {f_lanes_of : Addr} {od_lanes_of an_lanes_of : Option Addr} {sl_lanes_of : Array (Option Value)} {oc_lanes_of kV_lanes_of dc_lanes_of pm_lanes_of cd_lanes_of ct_lanes_of : Value}
    {f_row_of_lanes : Addr} {od_row_of_lanes an_row_of_lanes : Option Addr} {sl_row_of_lanes : Array (Option Value)} {oc_row_of_lanes kV_row_of_lanes dc_row_of_lanes pm_row_of_lanes cd_row_of_lanes ct_row_of_lanes : Value}
    {f_signed : Addr} {od_signed an_signed : Option Addr} {sl_signed : Array (Option Value)} {oc_signed kV_signed dc_signed pm_signed cd_signed ct_signed : Value}
    {f_is_marked : Addr} {od_is_marked an_is_marked : Option Addr} {sl_is_marked : Array (Option Value)} {oc_is_marked kV_is_marked dc_is_marked pm_is_marked cd_is_marked ct_is_marked : Value}
    {f_marked_questions : Addr} {od_marked_questions an_marked_questions : Option Addr} {sl_marked_questions : Array (Option Value)} {oc_marked_questions kV_marked_questions dc_marked_questions pm_marked_questions cd_marked_questions ct_marked_questions : Value}
    {f_Tally_init : Addr} {od_Tally_init an_Tally_init : Option Addr} {sl_Tally_init : Array (Option Value)} {oc_Tally_init kV_Tally_init dc_Tally_init pm_Tally_init cd_Tally_init ct_Tally_init : Value}
    {f_Tally_begin : Addr} {od_Tally_begin an_Tally_begin : Option Addr} {sl_Tally_begin : Array (Option Value)} {oc_Tally_begin kV_Tally_begin dc_Tally_begin pm_Tally_begin cd_Tally_begin ct_Tally_begin : Value}
    {f_Tally_count : Addr} {od_Tally_count an_Tally_count : Option Addr} {sl_Tally_count : Array (Option Value)} {oc_Tally_count kV_Tally_count dc_Tally_count pm_Tally_count cd_Tally_count ct_Tally_count : Value}
    {f_Tally_uncount : Addr} {od_Tally_uncount an_Tally_uncount : Option Addr} {sl_Tally_uncount : Array (Option Value)} {oc_Tally_uncount kV_Tally_uncount dc_Tally_uncount pm_Tally_uncount cd_Tally_uncount ct_Tally_uncount : Value}
    {f_Tally_step_all : Addr} {od_Tally_step_all an_Tally_step_all : Option Addr} {sl_Tally_step_all : Array (Option Value)} {oc_Tally_step_all kV_Tally_step_all dc_Tally_step_all pm_Tally_step_all cd_Tally_step_all ct_Tally_step_all : Value}
    {f_Tally_least : Addr} {od_Tally_least an_Tally_least : Option Addr} {sl_Tally_least : Array (Option Value)} {oc_Tally_least kV_Tally_least dc_Tally_least pm_Tally_least cd_Tally_least ct_Tally_least : Value}
    {f_Tally_between : Addr} {od_Tally_between an_Tally_between : Option Addr} {sl_Tally_between : Array (Option Value)} {oc_Tally_between kV_Tally_between dc_Tally_between pm_Tally_between cd_Tally_between ct_Tally_between : Value}
    {f_Tally_odd : Addr} {od_Tally_odd an_Tally_odd : Option Addr} {sl_Tally_odd : Array (Option Value)} {oc_Tally_odd kV_Tally_odd dc_Tally_odd pm_Tally_odd cd_Tally_odd ct_Tally_odd : Value}
    {f_Tally_one : Addr} {od_Tally_one an_Tally_one : Option Addr} {sl_Tally_one : Array (Option Value)} {oc_Tally_one kV_Tally_one dc_Tally_one pm_Tally_one cd_Tally_one ct_Tally_one : Value}
    {f_chosen : Addr} {od_chosen an_chosen : Option Addr} {sl_chosen : Array (Option Value)} {oc_chosen kV_chosen dc_chosen pm_chosen cd_chosen ct_chosen : Value}
    {f_choose : Addr} {od_choose an_choose : Option Addr} {sl_choose : Array (Option Value)} {oc_choose kV_choose dc_choose pm_choose cd_choose ct_choose : Value}
    {f_pick : Addr} {od_pick an_pick : Option Addr} {sl_pick : Array (Option Value)} {oc_pick kV_pick dc_pick pm_pick cd_pick ct_pick : Value}
    {f_field_of : Addr} {od_field_of an_field_of : Option Addr} {sl_field_of : Array (Option Value)} {oc_field_of kV_field_of dc_field_of pm_field_of cd_field_of ct_field_of : Value}
    {f_fields : Addr} {od_fields an_fields : Option Addr} {sl_fields : Array (Option Value)} {oc_fields kV_fields dc_fields pm_fields cd_fields ct_fields : Value}
    {f_products_of : Addr} {od_products_of an_products_of : Option Addr} {sl_products_of : Array (Option Value)} {oc_products_of kV_products_of dc_products_of pm_products_of cd_products_of ct_products_of : Value}
    {f_dot : Addr} {od_dot an_dot : Option Addr} {sl_dot : Array (Option Value)} {oc_dot kV_dot dc_dot pm_dot cd_dot ct_dot : Value}
    {f_dots : Addr} {od_dots an_dots : Option Addr} {sl_dots : Array (Option Value)} {oc_dots kV_dots dc_dots pm_dots cd_dots ct_dots : Value}
    {f_common_mask : Addr} {od_common_mask an_common_mask : Option Addr} {sl_common_mask : Array (Option Value)} {oc_common_mask kV_common_mask dc_common_mask pm_common_mask cd_common_mask ct_common_mask : Value}
    {f_join_bits : Addr} {od_join_bits an_join_bits : Option Addr} {sl_join_bits : Array (Option Value)} {oc_join_bits kV_join_bits dc_join_bits pm_join_bits cd_join_bits ct_join_bits : Value}
    {f_Reader_init : Addr} {od_Reader_init an_Reader_init : Option Addr} {sl_Reader_init : Array (Option Value)} {oc_Reader_init kV_Reader_init dc_Reader_init pm_Reader_init cd_Reader_init ct_Reader_init : Value}
    {f_Reader_is_done : Addr} {od_Reader_is_done an_Reader_is_done : Option Addr} {sl_Reader_is_done : Array (Option Value)} {oc_Reader_is_done kV_Reader_is_done dc_Reader_is_done pm_Reader_is_done cd_Reader_is_done ct_Reader_is_done : Value}
    {f_Reader_take_numbers : Addr} {od_Reader_take_numbers an_Reader_take_numbers : Option Addr} {sl_Reader_take_numbers : Array (Option Value)} {oc_Reader_take_numbers kV_Reader_take_numbers dc_Reader_take_numbers pm_Reader_take_numbers cd_Reader_take_numbers ct_Reader_take_numbers : Value}
    {f_Reader_take_number : Addr} {od_Reader_take_number an_Reader_take_number : Option Addr} {sl_Reader_take_number : Array (Option Value)} {oc_Reader_take_number kV_Reader_take_number dc_Reader_take_number pm_Reader_take_number cd_Reader_take_number ct_Reader_take_number : Value}
    {f_Reader_take_row : Addr} {od_Reader_take_row an_Reader_take_row : Option Addr} {sl_Reader_take_row : Array (Option Value)} {oc_Reader_take_row kV_Reader_take_row dc_Reader_take_row pm_Reader_take_row cd_Reader_take_row ct_Reader_take_row : Value}
    {f_answer_row_call : Addr} {od_answer_row_call an_answer_row_call : Option Addr} {sl_answer_row_call : Array (Option Value)} {oc_answer_row_call kV_answer_row_call dc_answer_row_call pm_answer_row_call cd_answer_row_call ct_answer_row_call : Value}
    {f_answer_tally_call : Addr} {od_answer_tally_call an_answer_tally_call : Option Addr} {sl_answer_tally_call : Array (Option Value)} {oc_answer_tally_call kV_answer_tally_call dc_answer_tally_call pm_answer_tally_call cd_answer_tally_call ct_answer_tally_call : Value}
    {f_answer_call : Addr} {od_answer_call an_answer_call : Option Addr} {sl_answer_call : Array (Option Value)} {oc_answer_call kV_answer_call dc_answer_call pm_answer_call cd_answer_call ct_answer_call : Value}
    {f_next_answer : Addr} {od_next_answer an_next_answer : Option Addr} {sl_next_answer : Array (Option Value)} {oc_next_answer kV_next_answer dc_next_answer pm_next_answer cd_next_answer ct_next_answer : Value}
    {f_answers : Addr} {od_answers an_answers : Option Addr} {sl_answers : Array (Option Value)} {oc_answers kV_answers dc_answers pm_answers cd_answers ct_answers : Value}
    {d_SHAPES : Addr} {ep_SHAPES : Nat} {t_SHAPES_0 : Addr} {tk_SHAPES_0 : Tok} {od_SHAPES_0 : Option Addr} {n_SHAPES_0 : Nat} {sl_SHAPES_0 : Array (Option Value)} {t_SHAPES_1 : Addr} {tk_SHAPES_1 : Tok} {od_SHAPES_1 : Option Addr} {n_SHAPES_1 : Nat} {sl_SHAPES_1 : Array (Option Value)} {t_SHAPES_2 : Addr} {tk_SHAPES_2 : Tok} {od_SHAPES_2 : Option Addr} {n_SHAPES_2 : Nat} {sl_SHAPES_2 : Array (Option Value)} {t_SHAPES_3 : Addr} {tk_SHAPES_3 : Tok} {od_SHAPES_3 : Option Addr} {n_SHAPES_3 : Nat} {sl_SHAPES_3 : Array (Option Value)} {t_SHAPES_4 : Addr} {tk_SHAPES_4 : Tok} {od_SHAPES_4 : Option Addr} {n_SHAPES_4 : Nat} {sl_SHAPES_4 : Array (Option Value)} {t_SHAPES_5 : Addr} {tk_SHAPES_5 : Tok} {od_SHAPES_5 : Option Addr} {n_SHAPES_5 : Nat} {sl_SHAPES_5 : Array (Option Value)} {t_SHAPES_6 : Addr} {tk_SHAPES_6 : Tok} {od_SHAPES_6 : Option Addr} {n_SHAPES_6 : Nat} {sl_SHAPES_6 : Array (Option Value)} {t_SHAPES_7 : Addr} {tk_SHAPES_7 : Tok} {od_SHAPES_7 : Option Addr} {n_SHAPES_7 : Nat} {sl_SHAPES_7 : Array (Option Value)} {t_SHAPES_8 : Addr} {tk_SHAPES_8 : Tok} {od_SHAPES_8 : Option Addr} {n_SHAPES_8 : Nat} {sl_SHAPES_8 : Array (Option Value)} {t_SHAPES_9 : Addr} {tk_SHAPES_9 : Tok} {od_SHAPES_9 : Option Addr} {n_SHAPES_9 : Nat} {sl_SHAPES_9 : Array (Option Value)} {t_SHAPES_10 : Addr} {tk_SHAPES_10 : Tok} {od_SHAPES_10 : Option Addr} {n_SHAPES_10 : Nat} {sl_SHAPES_10 : Array (Option Value)} {t_SHAPES_11 : Addr} {tk_SHAPES_11 : Tok} {od_SHAPES_11 : Option Addr} {n_SHAPES_11 : Nat} {sl_SHAPES_11 : Array (Option Value)} {t_SHAPES_12 : Addr} {tk_SHAPES_12 : Tok} {od_SHAPES_12 : Option Addr} {n_SHAPES_12 : Nat} {sl_SHAPES_12 : Array (Option Value)} {u_SHAPES_0_0 : Tok} {u_SHAPES_0_1 : Tok} {u_SHAPES_1_0 : Tok} {u_SHAPES_1_1 : Tok} {u_SHAPES_2_0 : Tok} {u_SHAPES_2_1 : Tok} {u_SHAPES_3_0 : Tok} {u_SHAPES_3_1 : Tok} {u_SHAPES_4_0 : Tok} {u_SHAPES_4_1 : Tok} {u_SHAPES_5_0 : Tok} {u_SHAPES_5_1 : Tok} {u_SHAPES_6_0 : Tok} {u_SHAPES_6_1 : Tok} {u_SHAPES_7_0 : Tok} {u_SHAPES_7_1 : Tok} {u_SHAPES_8_0 : Tok} {u_SHAPES_8_1 : Tok} {u_SHAPES_9_0 : Tok} {u_SHAPES_9_1 : Tok} {u_SHAPES_10_0 : Tok} {u_SHAPES_10_1 : Tok} {u_SHAPES_11_0 : Tok} {u_SHAPES_11_1 : Tok} {u_SHAPES_12_0 : Tok} {u_SHAPES_12_1 : Tok}
    (a_Tally : PySem.W.nsIn K mainGlobals "Tally" = some (some (.ref C_Tally)))
    (pg_Tally : PySem.W.plainGet K C_Tally Str.empty = true)
    (hd_Tally : PySem.W.hasDictIn K C_Tally = true)
    (po_Tally : PySem.W.plainOver K C_Tally = true)
    (sa_Tally : PySem.W.findIn K (.ref C_Tally) "__setattr__" = some (some (.builtin "object.__setattr__")))
    (mk_Tally : PySem.W.makesIn K C_Tally = true)
    (kc_Tally : PySem.W.keepIn K (.ref C_Tally) = true)
    (n_Tally_counts : PySem.W.findIn K (.ref C_Tally) "counts" = some none)
    (a_Reader : PySem.W.nsIn K mainGlobals "Reader" = some (some (.ref C_Reader)))
    (pg_Reader : PySem.W.plainGet K C_Reader Str.empty = true)
    (hd_Reader : PySem.W.hasDictIn K C_Reader = true)
    (po_Reader : PySem.W.plainOver K C_Reader = true)
    (sa_Reader : PySem.W.findIn K (.ref C_Reader) "__setattr__" = some (some (.builtin "object.__setattr__")))
    (mk_Reader : PySem.W.makesIn K C_Reader = true)
    (kc_Reader : PySem.W.keepIn K (.ref C_Reader) = true)
    (n_Reader_calls : PySem.W.findIn K (.ref C_Reader) "calls" = some none)
    (n_Reader_place : PySem.W.findIn K (.ref C_Reader) "place" = some none)
    (g_QUESTIONS : PySem.W.nsIn K mainGlobals "QUESTIONS" = some (some (.int 512 tk_QUESTIONS)))
    (g_ROW_BYTES : PySem.W.nsIn K mainGlobals "ROW_BYTES" = some (some (.int 64 tk_ROW_BYTES)))
    (g_MOST_COUNTED : PySem.W.nsIn K mainGlobals "MOST_COUNTED" = some (some (.int 65535 tk_MOST_COUNTED)))
    (g_WORD_BITS : PySem.W.nsIn K mainGlobals "WORD_BITS" = some (some (.int 64 tk_WORD_BITS)))
    (g_WORD_BYTES : PySem.W.nsIn K mainGlobals "WORD_BYTES" = some (some (.int 8 tk_WORD_BYTES)))
    (g_WORD_MASK : PySem.W.nsIn K mainGlobals "WORD_MASK" = some (some (.int 18446744073709551615 tk_WORD_MASK)))
    (g_DOT_BITS : PySem.W.nsIn K mainGlobals "DOT_BITS" = some (some (.int 32 tk_DOT_BITS)))
    (g_DOT_BYTES : PySem.W.nsIn K mainGlobals "DOT_BYTES" = some (some (.int 4 tk_DOT_BYTES)))
    (g_LEAST_HELD : PySem.W.nsIn K mainGlobals "LEAST_HELD" = some (some (.int (-2147483648) tk_LEAST_HELD)))
    (g_MOST_HELD : PySem.W.nsIn K mainGlobals "MOST_HELD" = some (some (.int 2147483647 tk_MOST_HELD)))
    (g_DONE : PySem.W.nsIn K mainGlobals "DONE" = some (some (.int 0 tk_DONE)))
    (g_REFUSED : PySem.W.nsIn K mainGlobals "REFUSED" = some (some (.int 2 tk_REFUSED)))
    (g_NO_SUCH_QUESTION : PySem.W.nsIn K mainGlobals "NO_SUCH_QUESTION" = some (some (.int (-1) tk_NO_SUCH_QUESTION)))
    (g_BEGIN : PySem.W.nsIn K mainGlobals "BEGIN" = some (some (.int 0 tk_BEGIN)))
    (g_COUNT : PySem.W.nsIn K mainGlobals "COUNT" = some (some (.int 1 tk_COUNT)))
    (g_UNCOUNT : PySem.W.nsIn K mainGlobals "UNCOUNT" = some (some (.int 2 tk_UNCOUNT)))
    (g_LEAST : PySem.W.nsIn K mainGlobals "LEAST" = some (some (.int 3 tk_LEAST)))
    (g_BETWEEN : PySem.W.nsIn K mainGlobals "BETWEEN" = some (some (.int 4 tk_BETWEEN)))
    (g_ODD : PySem.W.nsIn K mainGlobals "ODD" = some (some (.int 5 tk_ODD)))
    (g_CHOOSE : PySem.W.nsIn K mainGlobals "CHOOSE" = some (some (.int 7 tk_CHOOSE)))
    (g_PICK : PySem.W.nsIn K mainGlobals "PICK" = some (some (.int 8 tk_PICK)))
    (g_FIELDS : PySem.W.nsIn K mainGlobals "FIELDS" = some (some (.int 9 tk_FIELDS)))
    (g_DOTS : PySem.W.nsIn K mainGlobals "DOTS" = some (some (.int 10 tk_DOTS)))
    (g_TESTS : PySem.W.nsIn K mainGlobals "TESTS" = some (some (.int 11 tk_TESTS)))
    (g_MAJORITY : PySem.W.nsIn K mainGlobals "MAJORITY" = some (some (.int 0 tk_MAJORITY)))
    (g_BY_THE_FIRST : PySem.W.nsIn K mainGlobals "BY_THE_FIRST" = some (some (.int 1 tk_BY_THE_FIRST)))
    (g_ODD_MANY : PySem.W.nsIn K mainGlobals "ODD_MANY" = some (some (.int 2 tk_ODD_MANY)))
    (g_JUST_ONE : PySem.W.nsIn K mainGlobals "JUST_ONE" = some (some (.int 3 tk_JUST_ONE)))
    (g_ALL_THE_SAME : PySem.W.nsIn K mainGlobals "ALL_THE_SAME" = some (some (.int 4 tk_ALL_THE_SAME)))
    (a_LANE_WIDTHS : PySem.W.nsIn K mainGlobals "LANE_WIDTHS" = some (some (.ref t_LANE_WIDTHS)))
    (l_LANE_WIDTHS : K.lookup t_LANE_WIDTHS = some ⟨.type "tuple", od_LANE_WIDTHS, .seq #[.int 1 u_LANE_WIDTHS_0, .int 2 u_LANE_WIDTHS_1, .int 4 u_LANE_WIDTHS_2, .int 8 u_LANE_WIDTHS_3] n_LANE_WIDTHS, sl_LANE_WIDTHS⟩)
    (b_len : PySem.W.nsIn K mainGlobals "len" = some none)
    (b_range : PySem.W.nsIn K mainGlobals "range" = some none)
    (b_enumerate : PySem.W.nsIn K mainGlobals "enumerate" = some none)
    (b_zip : PySem.W.nsIn K mainGlobals "zip" = some none)
    (b_sum : PySem.W.nsIn K mainGlobals "sum" = some none)
    (b_max : PySem.W.nsIn K mainGlobals "max" = some none)
    (b_min : PySem.W.nsIn K mainGlobals "min" = some none)
    (a_bit_of : PySem.W.nsIn K mainGlobals "bit_of" = some (some (.ref f_bit_of)))
    (l_bit_of : K.lookup f_bit_of = some ⟨oc_bit_of, od_bit_of, .func (PySem.W.fnOf "bit_of" "bit_of" (defArgs s_bit_of) (defBody s_bit_of) (defScope s_bit_of) .none kV_bit_of dc_bit_of pm_bit_of an_bit_of cd_bit_of ct_bit_of), sl_bit_of⟩)
    (c_bit_of : PySem.W.codeIn K cd_bit_of "bit_of" = true)
    (k_bit_of : PySem.W.keepIn K (.ref f_bit_of) = true)
    (a_row_of : PySem.W.nsIn K mainGlobals "row_of" = some (some (.ref f_row_of)))
    (l_row_of : K.lookup f_row_of = some ⟨oc_row_of, od_row_of, .func (PySem.W.fnOf "row_of" "row_of" (defArgs s_row_of) (defBody s_row_of) (defScope s_row_of) .none kV_row_of dc_row_of pm_row_of an_row_of cd_row_of ct_row_of), sl_row_of⟩)
    (c_row_of : PySem.W.codeIn K cd_row_of "row_of" = true)
    (k_row_of : PySem.W.keepIn K (.ref f_row_of) = true)
    (a_number_of : PySem.W.nsIn K mainGlobals "number_of" = some (some (.ref f_number_of)))
    (l_number_of : K.lookup f_number_of = some ⟨oc_number_of, od_number_of, .func (PySem.W.fnOf "number_of" "number_of" (defArgs s_number_of) (defBody s_number_of) (defScope s_number_of) .none kV_number_of dc_number_of pm_number_of an_number_of cd_number_of ct_number_of), sl_number_of⟩)
    (c_number_of : PySem.W.codeIn K cd_number_of "number_of" = true)
    (k_number_of : PySem.W.keepIn K (.ref f_number_of) = true)
    (a_bytes_of : PySem.W.nsIn K mainGlobals "bytes_of" = some (some (.ref f_bytes_of)))
    (l_bytes_of : K.lookup f_bytes_of = some ⟨oc_bytes_of, od_bytes_of, .func (PySem.W.fnOf "bytes_of" "bytes_of" (defArgs s_bytes_of) (defBody s_bytes_of) (defScope s_bytes_of) .none kV_bytes_of dc_bytes_of pm_bytes_of an_bytes_of cd_bytes_of ct_bytes_of), sl_bytes_of⟩)
    (c_bytes_of : PySem.W.codeIn K cd_bytes_of "bytes_of" = true)
    (k_bytes_of : PySem.W.keepIn K (.ref f_bytes_of) = true)
    (a_lanes_of : PySem.W.nsIn K mainGlobals "lanes_of" = some (some (.ref f_lanes_of)))
    (l_lanes_of : K.lookup f_lanes_of = some ⟨oc_lanes_of, od_lanes_of, .func (PySem.W.fnOf "lanes_of" "lanes_of" (defArgs s_lanes_of) (defBody s_lanes_of) (defScope s_lanes_of) .none kV_lanes_of dc_lanes_of pm_lanes_of an_lanes_of cd_lanes_of ct_lanes_of), sl_lanes_of⟩)
    (c_lanes_of : PySem.W.codeIn K cd_lanes_of "lanes_of" = true)
    (k_lanes_of : PySem.W.keepIn K (.ref f_lanes_of) = true)
    (a_row_of_lanes : PySem.W.nsIn K mainGlobals "row_of_lanes" = some (some (.ref f_row_of_lanes)))
    (l_row_of_lanes : K.lookup f_row_of_lanes = some ⟨oc_row_of_lanes, od_row_of_lanes, .func (PySem.W.fnOf "row_of_lanes" "row_of_lanes" (defArgs s_row_of_lanes) (defBody s_row_of_lanes) (defScope s_row_of_lanes) .none kV_row_of_lanes dc_row_of_lanes pm_row_of_lanes an_row_of_lanes cd_row_of_lanes ct_row_of_lanes), sl_row_of_lanes⟩)
    (c_row_of_lanes : PySem.W.codeIn K cd_row_of_lanes "row_of_lanes" = true)
    (k_row_of_lanes : PySem.W.keepIn K (.ref f_row_of_lanes) = true)
    (a_signed : PySem.W.nsIn K mainGlobals "signed" = some (some (.ref f_signed)))
    (l_signed : K.lookup f_signed = some ⟨oc_signed, od_signed, .func (PySem.W.fnOf "signed" "signed" (defArgs s_signed) (defBody s_signed) (defScope s_signed) .none kV_signed dc_signed pm_signed an_signed cd_signed ct_signed), sl_signed⟩)
    (c_signed : PySem.W.codeIn K cd_signed "signed" = true)
    (k_signed : PySem.W.keepIn K (.ref f_signed) = true)
    (a_is_marked : PySem.W.nsIn K mainGlobals "is_marked" = some (some (.ref f_is_marked)))
    (l_is_marked : K.lookup f_is_marked = some ⟨oc_is_marked, od_is_marked, .func (PySem.W.fnOf "is_marked" "is_marked" (defArgs s_is_marked) (defBody s_is_marked) (defScope s_is_marked) .none kV_is_marked dc_is_marked pm_is_marked an_is_marked cd_is_marked ct_is_marked), sl_is_marked⟩)
    (c_is_marked : PySem.W.codeIn K cd_is_marked "is_marked" = true)
    (k_is_marked : PySem.W.keepIn K (.ref f_is_marked) = true)
    (a_marked_questions : PySem.W.nsIn K mainGlobals "marked_questions" = some (some (.ref f_marked_questions)))
    (l_marked_questions : K.lookup f_marked_questions = some ⟨oc_marked_questions, od_marked_questions, .func (PySem.W.fnOf "marked_questions" "marked_questions" (defArgs s_marked_questions) (defBody s_marked_questions) (defScope s_marked_questions) .none kV_marked_questions dc_marked_questions pm_marked_questions an_marked_questions cd_marked_questions ct_marked_questions), sl_marked_questions⟩)
    (c_marked_questions : PySem.W.codeIn K cd_marked_questions "marked_questions" = true)
    (k_marked_questions : PySem.W.keepIn K (.ref f_marked_questions) = true)
    (a_Tally_init : PySem.W.findIn K (.ref C_Tally) "__init__" = some (some (.ref f_Tally_init)))
    (i_Tally_init : PySem.W.isFn K (.ref f_Tally_init) = true)
    (l_Tally_init : K.lookup f_Tally_init = some ⟨oc_Tally_init, od_Tally_init, .func (PySem.W.fnOf "__init__" "Tally.__init__" (defArgs s_Tally_init) (defBody s_Tally_init) (defScope s_Tally_init) .none kV_Tally_init dc_Tally_init pm_Tally_init an_Tally_init cd_Tally_init ct_Tally_init), sl_Tally_init⟩)
    (c_Tally_init : PySem.W.codeIn K cd_Tally_init "Tally.__init__" = true)
    (k_Tally_init : PySem.W.keepIn K (.ref f_Tally_init) = true)
    (a_Tally_begin : PySem.W.findIn K (.ref C_Tally) "begin" = some (some (.ref f_Tally_begin)))
    (i_Tally_begin : PySem.W.isFn K (.ref f_Tally_begin) = true)
    (l_Tally_begin : K.lookup f_Tally_begin = some ⟨oc_Tally_begin, od_Tally_begin, .func (PySem.W.fnOf "begin" "Tally.begin" (defArgs s_Tally_begin) (defBody s_Tally_begin) (defScope s_Tally_begin) .none kV_Tally_begin dc_Tally_begin pm_Tally_begin an_Tally_begin cd_Tally_begin ct_Tally_begin), sl_Tally_begin⟩)
    (c_Tally_begin : PySem.W.codeIn K cd_Tally_begin "Tally.begin" = true)
    (k_Tally_begin : PySem.W.keepIn K (.ref f_Tally_begin) = true)
    (a_Tally_count : PySem.W.findIn K (.ref C_Tally) "count" = some (some (.ref f_Tally_count)))
    (i_Tally_count : PySem.W.isFn K (.ref f_Tally_count) = true)
    (l_Tally_count : K.lookup f_Tally_count = some ⟨oc_Tally_count, od_Tally_count, .func (PySem.W.fnOf "count" "Tally.count" (defArgs s_Tally_count) (defBody s_Tally_count) (defScope s_Tally_count) .none kV_Tally_count dc_Tally_count pm_Tally_count an_Tally_count cd_Tally_count ct_Tally_count), sl_Tally_count⟩)
    (c_Tally_count : PySem.W.codeIn K cd_Tally_count "Tally.count" = true)
    (k_Tally_count : PySem.W.keepIn K (.ref f_Tally_count) = true)
    (a_Tally_uncount : PySem.W.findIn K (.ref C_Tally) "uncount" = some (some (.ref f_Tally_uncount)))
    (i_Tally_uncount : PySem.W.isFn K (.ref f_Tally_uncount) = true)
    (l_Tally_uncount : K.lookup f_Tally_uncount = some ⟨oc_Tally_uncount, od_Tally_uncount, .func (PySem.W.fnOf "uncount" "Tally.uncount" (defArgs s_Tally_uncount) (defBody s_Tally_uncount) (defScope s_Tally_uncount) .none kV_Tally_uncount dc_Tally_uncount pm_Tally_uncount an_Tally_uncount cd_Tally_uncount ct_Tally_uncount), sl_Tally_uncount⟩)
    (c_Tally_uncount : PySem.W.codeIn K cd_Tally_uncount "Tally.uncount" = true)
    (k_Tally_uncount : PySem.W.keepIn K (.ref f_Tally_uncount) = true)
    (a_Tally_step_all : PySem.W.findIn K (.ref C_Tally) "step_all" = some (some (.ref f_Tally_step_all)))
    (i_Tally_step_all : PySem.W.isFn K (.ref f_Tally_step_all) = true)
    (l_Tally_step_all : K.lookup f_Tally_step_all = some ⟨oc_Tally_step_all, od_Tally_step_all, .func (PySem.W.fnOf "step_all" "Tally.step_all" (defArgs s_Tally_step_all) (defBody s_Tally_step_all) (defScope s_Tally_step_all) .none kV_Tally_step_all dc_Tally_step_all pm_Tally_step_all an_Tally_step_all cd_Tally_step_all ct_Tally_step_all), sl_Tally_step_all⟩)
    (c_Tally_step_all : PySem.W.codeIn K cd_Tally_step_all "Tally.step_all" = true)
    (k_Tally_step_all : PySem.W.keepIn K (.ref f_Tally_step_all) = true)
    (a_Tally_least : PySem.W.findIn K (.ref C_Tally) "least" = some (some (.ref f_Tally_least)))
    (i_Tally_least : PySem.W.isFn K (.ref f_Tally_least) = true)
    (l_Tally_least : K.lookup f_Tally_least = some ⟨oc_Tally_least, od_Tally_least, .func (PySem.W.fnOf "least" "Tally.least" (defArgs s_Tally_least) (defBody s_Tally_least) (defScope s_Tally_least) .none kV_Tally_least dc_Tally_least pm_Tally_least an_Tally_least cd_Tally_least ct_Tally_least), sl_Tally_least⟩)
    (c_Tally_least : PySem.W.codeIn K cd_Tally_least "Tally.least" = true)
    (k_Tally_least : PySem.W.keepIn K (.ref f_Tally_least) = true)
    (a_Tally_between : PySem.W.findIn K (.ref C_Tally) "between" = some (some (.ref f_Tally_between)))
    (i_Tally_between : PySem.W.isFn K (.ref f_Tally_between) = true)
    (l_Tally_between : K.lookup f_Tally_between = some ⟨oc_Tally_between, od_Tally_between, .func (PySem.W.fnOf "between" "Tally.between" (defArgs s_Tally_between) (defBody s_Tally_between) (defScope s_Tally_between) .none kV_Tally_between dc_Tally_between pm_Tally_between an_Tally_between cd_Tally_between ct_Tally_between), sl_Tally_between⟩)
    (c_Tally_between : PySem.W.codeIn K cd_Tally_between "Tally.between" = true)
    (k_Tally_between : PySem.W.keepIn K (.ref f_Tally_between) = true)
    (a_Tally_odd : PySem.W.findIn K (.ref C_Tally) "odd" = some (some (.ref f_Tally_odd)))
    (i_Tally_odd : PySem.W.isFn K (.ref f_Tally_odd) = true)
    (l_Tally_odd : K.lookup f_Tally_odd = some ⟨oc_Tally_odd, od_Tally_odd, .func (PySem.W.fnOf "odd" "Tally.odd" (defArgs s_Tally_odd) (defBody s_Tally_odd) (defScope s_Tally_odd) .none kV_Tally_odd dc_Tally_odd pm_Tally_odd an_Tally_odd cd_Tally_odd ct_Tally_odd), sl_Tally_odd⟩)
    (c_Tally_odd : PySem.W.codeIn K cd_Tally_odd "Tally.odd" = true)
    (k_Tally_odd : PySem.W.keepIn K (.ref f_Tally_odd) = true)
    (a_Tally_one : PySem.W.findIn K (.ref C_Tally) "one" = some (some (.ref f_Tally_one)))
    (i_Tally_one : PySem.W.isFn K (.ref f_Tally_one) = true)
    (l_Tally_one : K.lookup f_Tally_one = some ⟨oc_Tally_one, od_Tally_one, .func (PySem.W.fnOf "one" "Tally.one" (defArgs s_Tally_one) (defBody s_Tally_one) (defScope s_Tally_one) .none kV_Tally_one dc_Tally_one pm_Tally_one an_Tally_one cd_Tally_one ct_Tally_one), sl_Tally_one⟩)
    (c_Tally_one : PySem.W.codeIn K cd_Tally_one "Tally.one" = true)
    (k_Tally_one : PySem.W.keepIn K (.ref f_Tally_one) = true)
    (a_chosen : PySem.W.nsIn K mainGlobals "chosen" = some (some (.ref f_chosen)))
    (l_chosen : K.lookup f_chosen = some ⟨oc_chosen, od_chosen, .func (PySem.W.fnOf "chosen" "chosen" (defArgs s_chosen) (defBody s_chosen) (defScope s_chosen) .none kV_chosen dc_chosen pm_chosen an_chosen cd_chosen ct_chosen), sl_chosen⟩)
    (c_chosen : PySem.W.codeIn K cd_chosen "chosen" = true)
    (k_chosen : PySem.W.keepIn K (.ref f_chosen) = true)
    (a_choose : PySem.W.nsIn K mainGlobals "choose" = some (some (.ref f_choose)))
    (l_choose : K.lookup f_choose = some ⟨oc_choose, od_choose, .func (PySem.W.fnOf "choose" "choose" (defArgs s_choose) (defBody s_choose) (defScope s_choose) .none kV_choose dc_choose pm_choose an_choose cd_choose ct_choose), sl_choose⟩)
    (c_choose : PySem.W.codeIn K cd_choose "choose" = true)
    (k_choose : PySem.W.keepIn K (.ref f_choose) = true)
    (a_pick : PySem.W.nsIn K mainGlobals "pick" = some (some (.ref f_pick)))
    (l_pick : K.lookup f_pick = some ⟨oc_pick, od_pick, .func (PySem.W.fnOf "pick" "pick" (defArgs s_pick) (defBody s_pick) (defScope s_pick) .none kV_pick dc_pick pm_pick an_pick cd_pick ct_pick), sl_pick⟩)
    (c_pick : PySem.W.codeIn K cd_pick "pick" = true)
    (k_pick : PySem.W.keepIn K (.ref f_pick) = true)
    (a_field_of : PySem.W.nsIn K mainGlobals "field_of" = some (some (.ref f_field_of)))
    (l_field_of : K.lookup f_field_of = some ⟨oc_field_of, od_field_of, .func (PySem.W.fnOf "field_of" "field_of" (defArgs s_field_of) (defBody s_field_of) (defScope s_field_of) .none kV_field_of dc_field_of pm_field_of an_field_of cd_field_of ct_field_of), sl_field_of⟩)
    (c_field_of : PySem.W.codeIn K cd_field_of "field_of" = true)
    (k_field_of : PySem.W.keepIn K (.ref f_field_of) = true)
    (a_fields : PySem.W.nsIn K mainGlobals "fields" = some (some (.ref f_fields)))
    (l_fields : K.lookup f_fields = some ⟨oc_fields, od_fields, .func (PySem.W.fnOf "fields" "fields" (defArgs s_fields) (defBody s_fields) (defScope s_fields) .none kV_fields dc_fields pm_fields an_fields cd_fields ct_fields), sl_fields⟩)
    (c_fields : PySem.W.codeIn K cd_fields "fields" = true)
    (k_fields : PySem.W.keepIn K (.ref f_fields) = true)
    (a_products_of : PySem.W.nsIn K mainGlobals "products_of" = some (some (.ref f_products_of)))
    (l_products_of : K.lookup f_products_of = some ⟨oc_products_of, od_products_of, .func (PySem.W.fnOf "products_of" "products_of" (defArgs s_products_of) (defBody s_products_of) (defScope s_products_of) .none kV_products_of dc_products_of pm_products_of an_products_of cd_products_of ct_products_of), sl_products_of⟩)
    (c_products_of : PySem.W.codeIn K cd_products_of "products_of" = true)
    (k_products_of : PySem.W.keepIn K (.ref f_products_of) = true)
    (a_dot : PySem.W.nsIn K mainGlobals "dot" = some (some (.ref f_dot)))
    (l_dot : K.lookup f_dot = some ⟨oc_dot, od_dot, .func (PySem.W.fnOf "dot" "dot" (defArgs s_dot) (defBody s_dot) (defScope s_dot) .none kV_dot dc_dot pm_dot an_dot cd_dot ct_dot), sl_dot⟩)
    (c_dot : PySem.W.codeIn K cd_dot "dot" = true)
    (k_dot : PySem.W.keepIn K (.ref f_dot) = true)
    (a_dots : PySem.W.nsIn K mainGlobals "dots" = some (some (.ref f_dots)))
    (l_dots : K.lookup f_dots = some ⟨oc_dots, od_dots, .func (PySem.W.fnOf "dots" "dots" (defArgs s_dots) (defBody s_dots) (defScope s_dots) .none kV_dots dc_dots pm_dots an_dots cd_dots ct_dots), sl_dots⟩)
    (c_dots : PySem.W.codeIn K cd_dots "dots" = true)
    (k_dots : PySem.W.keepIn K (.ref f_dots) = true)
    (a_common_mask : PySem.W.nsIn K mainGlobals "common_mask" = some (some (.ref f_common_mask)))
    (l_common_mask : K.lookup f_common_mask = some ⟨oc_common_mask, od_common_mask, .func (PySem.W.fnOf "common_mask" "common_mask" (defArgs s_common_mask) (defBody s_common_mask) (defScope s_common_mask) .none kV_common_mask dc_common_mask pm_common_mask an_common_mask cd_common_mask ct_common_mask), sl_common_mask⟩)
    (c_common_mask : PySem.W.codeIn K cd_common_mask "common_mask" = true)
    (k_common_mask : PySem.W.keepIn K (.ref f_common_mask) = true)
    (a_join_bits : PySem.W.nsIn K mainGlobals "join_bits" = some (some (.ref f_join_bits)))
    (l_join_bits : K.lookup f_join_bits = some ⟨oc_join_bits, od_join_bits, .func (PySem.W.fnOf "join_bits" "join_bits" (defArgs s_join_bits) (defBody s_join_bits) (defScope s_join_bits) .none kV_join_bits dc_join_bits pm_join_bits an_join_bits cd_join_bits ct_join_bits), sl_join_bits⟩)
    (c_join_bits : PySem.W.codeIn K cd_join_bits "join_bits" = true)
    (k_join_bits : PySem.W.keepIn K (.ref f_join_bits) = true)
    (a_Reader_init : PySem.W.findIn K (.ref C_Reader) "__init__" = some (some (.ref f_Reader_init)))
    (i_Reader_init : PySem.W.isFn K (.ref f_Reader_init) = true)
    (l_Reader_init : K.lookup f_Reader_init = some ⟨oc_Reader_init, od_Reader_init, .func (PySem.W.fnOf "__init__" "Reader.__init__" (defArgs s_Reader_init) (defBody s_Reader_init) (defScope s_Reader_init) .none kV_Reader_init dc_Reader_init pm_Reader_init an_Reader_init cd_Reader_init ct_Reader_init), sl_Reader_init⟩)
    (c_Reader_init : PySem.W.codeIn K cd_Reader_init "Reader.__init__" = true)
    (k_Reader_init : PySem.W.keepIn K (.ref f_Reader_init) = true)
    (a_Reader_is_done : PySem.W.findIn K (.ref C_Reader) "is_done" = some (some (.ref f_Reader_is_done)))
    (i_Reader_is_done : PySem.W.isFn K (.ref f_Reader_is_done) = true)
    (l_Reader_is_done : K.lookup f_Reader_is_done = some ⟨oc_Reader_is_done, od_Reader_is_done, .func (PySem.W.fnOf "is_done" "Reader.is_done" (defArgs s_Reader_is_done) (defBody s_Reader_is_done) (defScope s_Reader_is_done) .none kV_Reader_is_done dc_Reader_is_done pm_Reader_is_done an_Reader_is_done cd_Reader_is_done ct_Reader_is_done), sl_Reader_is_done⟩)
    (c_Reader_is_done : PySem.W.codeIn K cd_Reader_is_done "Reader.is_done" = true)
    (k_Reader_is_done : PySem.W.keepIn K (.ref f_Reader_is_done) = true)
    (a_Reader_take_numbers : PySem.W.findIn K (.ref C_Reader) "take_numbers" = some (some (.ref f_Reader_take_numbers)))
    (i_Reader_take_numbers : PySem.W.isFn K (.ref f_Reader_take_numbers) = true)
    (l_Reader_take_numbers : K.lookup f_Reader_take_numbers = some ⟨oc_Reader_take_numbers, od_Reader_take_numbers, .func (PySem.W.fnOf "take_numbers" "Reader.take_numbers" (defArgs s_Reader_take_numbers) (defBody s_Reader_take_numbers) (defScope s_Reader_take_numbers) .none kV_Reader_take_numbers dc_Reader_take_numbers pm_Reader_take_numbers an_Reader_take_numbers cd_Reader_take_numbers ct_Reader_take_numbers), sl_Reader_take_numbers⟩)
    (c_Reader_take_numbers : PySem.W.codeIn K cd_Reader_take_numbers "Reader.take_numbers" = true)
    (k_Reader_take_numbers : PySem.W.keepIn K (.ref f_Reader_take_numbers) = true)
    (a_Reader_take_number : PySem.W.findIn K (.ref C_Reader) "take_number" = some (some (.ref f_Reader_take_number)))
    (i_Reader_take_number : PySem.W.isFn K (.ref f_Reader_take_number) = true)
    (l_Reader_take_number : K.lookup f_Reader_take_number = some ⟨oc_Reader_take_number, od_Reader_take_number, .func (PySem.W.fnOf "take_number" "Reader.take_number" (defArgs s_Reader_take_number) (defBody s_Reader_take_number) (defScope s_Reader_take_number) .none kV_Reader_take_number dc_Reader_take_number pm_Reader_take_number an_Reader_take_number cd_Reader_take_number ct_Reader_take_number), sl_Reader_take_number⟩)
    (c_Reader_take_number : PySem.W.codeIn K cd_Reader_take_number "Reader.take_number" = true)
    (k_Reader_take_number : PySem.W.keepIn K (.ref f_Reader_take_number) = true)
    (a_Reader_take_row : PySem.W.findIn K (.ref C_Reader) "take_row" = some (some (.ref f_Reader_take_row)))
    (i_Reader_take_row : PySem.W.isFn K (.ref f_Reader_take_row) = true)
    (l_Reader_take_row : K.lookup f_Reader_take_row = some ⟨oc_Reader_take_row, od_Reader_take_row, .func (PySem.W.fnOf "take_row" "Reader.take_row" (defArgs s_Reader_take_row) (defBody s_Reader_take_row) (defScope s_Reader_take_row) .none kV_Reader_take_row dc_Reader_take_row pm_Reader_take_row an_Reader_take_row cd_Reader_take_row ct_Reader_take_row), sl_Reader_take_row⟩)
    (c_Reader_take_row : PySem.W.codeIn K cd_Reader_take_row "Reader.take_row" = true)
    (k_Reader_take_row : PySem.W.keepIn K (.ref f_Reader_take_row) = true)
    (a_answer_row_call : PySem.W.nsIn K mainGlobals "answer_row_call" = some (some (.ref f_answer_row_call)))
    (l_answer_row_call : K.lookup f_answer_row_call = some ⟨oc_answer_row_call, od_answer_row_call, .func (PySem.W.fnOf "answer_row_call" "answer_row_call" (defArgs s_answer_row_call) (defBody s_answer_row_call) (defScope s_answer_row_call) .none kV_answer_row_call dc_answer_row_call pm_answer_row_call an_answer_row_call cd_answer_row_call ct_answer_row_call), sl_answer_row_call⟩)
    (c_answer_row_call : PySem.W.codeIn K cd_answer_row_call "answer_row_call" = true)
    (k_answer_row_call : PySem.W.keepIn K (.ref f_answer_row_call) = true)
    (a_answer_tally_call : PySem.W.nsIn K mainGlobals "answer_tally_call" = some (some (.ref f_answer_tally_call)))
    (l_answer_tally_call : K.lookup f_answer_tally_call = some ⟨oc_answer_tally_call, od_answer_tally_call, .func (PySem.W.fnOf "answer_tally_call" "answer_tally_call" (defArgs s_answer_tally_call) (defBody s_answer_tally_call) (defScope s_answer_tally_call) .none kV_answer_tally_call dc_answer_tally_call pm_answer_tally_call an_answer_tally_call cd_answer_tally_call ct_answer_tally_call), sl_answer_tally_call⟩)
    (c_answer_tally_call : PySem.W.codeIn K cd_answer_tally_call "answer_tally_call" = true)
    (k_answer_tally_call : PySem.W.keepIn K (.ref f_answer_tally_call) = true)
    (a_answer_call : PySem.W.nsIn K mainGlobals "answer_call" = some (some (.ref f_answer_call)))
    (l_answer_call : K.lookup f_answer_call = some ⟨oc_answer_call, od_answer_call, .func (PySem.W.fnOf "answer_call" "answer_call" (defArgs s_answer_call) (defBody s_answer_call) (defScope s_answer_call) .none kV_answer_call dc_answer_call pm_answer_call an_answer_call cd_answer_call ct_answer_call), sl_answer_call⟩)
    (c_answer_call : PySem.W.codeIn K cd_answer_call "answer_call" = true)
    (k_answer_call : PySem.W.keepIn K (.ref f_answer_call) = true)
    (a_next_answer : PySem.W.nsIn K mainGlobals "next_answer" = some (some (.ref f_next_answer)))
    (l_next_answer : K.lookup f_next_answer = some ⟨oc_next_answer, od_next_answer, .func (PySem.W.fnOf "next_answer" "next_answer" (defArgs s_next_answer) (defBody s_next_answer) (defScope s_next_answer) .none kV_next_answer dc_next_answer pm_next_answer an_next_answer cd_next_answer ct_next_answer), sl_next_answer⟩)
    (c_next_answer : PySem.W.codeIn K cd_next_answer "next_answer" = true)
    (k_next_answer : PySem.W.keepIn K (.ref f_next_answer) = true)
    (a_answers : PySem.W.nsIn K mainGlobals "answers" = some (some (.ref f_answers)))
    (l_answers : K.lookup f_answers = some ⟨oc_answers, od_answers, .func (PySem.W.fnOf "answers" "answers" (defArgs s_answers) (defBody s_answers) (defScope s_answers) .none kV_answers dc_answers pm_answers an_answers cd_answers ct_answers), sl_answers⟩)
    (c_answers : PySem.W.codeIn K cd_answers "answers" = true)
    (k_answers : PySem.W.keepIn K (.ref f_answers) = true)
    (a_SHAPES : PySem.W.nsIn K mainGlobals "SHAPES" = some (some (.ref d_SHAPES)))
    (l_SHAPES : K.lookup d_SHAPES = some ⟨.type "dict", none, .dict #[⟨0, .int 0 tk_SHAPES_0, .ref t_SHAPES_0⟩, ⟨1, .int 1 tk_SHAPES_1, .ref t_SHAPES_1⟩, ⟨2, .int 2 tk_SHAPES_2, .ref t_SHAPES_2⟩, ⟨3, .int 3 tk_SHAPES_3, .ref t_SHAPES_3⟩, ⟨4, .int 4 tk_SHAPES_4, .ref t_SHAPES_4⟩, ⟨5, .int 5 tk_SHAPES_5, .ref t_SHAPES_5⟩, ⟨6, .int 6 tk_SHAPES_6, .ref t_SHAPES_6⟩, ⟨7, .int 7 tk_SHAPES_7, .ref t_SHAPES_7⟩, ⟨8, .int 8 tk_SHAPES_8, .ref t_SHAPES_8⟩, ⟨9, .int 9 tk_SHAPES_9, .ref t_SHAPES_9⟩, ⟨10, .int 10 tk_SHAPES_10, .ref t_SHAPES_10⟩, ⟨11, .int 11 tk_SHAPES_11, .ref t_SHAPES_11⟩, ⟨12, .int 12 tk_SHAPES_12, .ref t_SHAPES_12⟩] ep_SHAPES, #[]⟩)
    (l_SHAPES_0 : K.lookup t_SHAPES_0 = some ⟨.type "tuple", od_SHAPES_0, .seq #[.int 0 u_SHAPES_0_0, .int 0 u_SHAPES_0_1] n_SHAPES_0, sl_SHAPES_0⟩)
    (l_SHAPES_1 : K.lookup t_SHAPES_1 = some ⟨.type "tuple", od_SHAPES_1, .seq #[.int 1 u_SHAPES_1_0, .int 1 u_SHAPES_1_1] n_SHAPES_1, sl_SHAPES_1⟩)
    (l_SHAPES_2 : K.lookup t_SHAPES_2 = some ⟨.type "tuple", od_SHAPES_2, .seq #[.int 1 u_SHAPES_2_0, .int 1 u_SHAPES_2_1] n_SHAPES_2, sl_SHAPES_2⟩)
    (l_SHAPES_3 : K.lookup t_SHAPES_3 = some ⟨.type "tuple", od_SHAPES_3, .seq #[.int 1 u_SHAPES_3_0, .int 0 u_SHAPES_3_1] n_SHAPES_3, sl_SHAPES_3⟩)
    (l_SHAPES_4 : K.lookup t_SHAPES_4 = some ⟨.type "tuple", od_SHAPES_4, .seq #[.int 2 u_SHAPES_4_0, .int 0 u_SHAPES_4_1] n_SHAPES_4, sl_SHAPES_4⟩)
    (l_SHAPES_5 : K.lookup t_SHAPES_5 = some ⟨.type "tuple", od_SHAPES_5, .seq #[.int 0 u_SHAPES_5_0, .int 0 u_SHAPES_5_1] n_SHAPES_5, sl_SHAPES_5⟩)
    (l_SHAPES_6 : K.lookup t_SHAPES_6 = some ⟨.type "tuple", od_SHAPES_6, .seq #[.int 1 u_SHAPES_6_0, .int 0 u_SHAPES_6_1] n_SHAPES_6, sl_SHAPES_6⟩)
    (l_SHAPES_7 : K.lookup t_SHAPES_7 = some ⟨.type "tuple", od_SHAPES_7, .seq #[.int 1 u_SHAPES_7_0, .int 3 u_SHAPES_7_1] n_SHAPES_7, sl_SHAPES_7⟩)
    (l_SHAPES_8 : K.lookup t_SHAPES_8 = some ⟨.type "tuple", od_SHAPES_8, .seq #[.int 2 u_SHAPES_8_0, .int 3 u_SHAPES_8_1] n_SHAPES_8, sl_SHAPES_8⟩)
    (l_SHAPES_9 : K.lookup t_SHAPES_9 = some ⟨.type "tuple", od_SHAPES_9, .seq #[.int 1 u_SHAPES_9_0, .int 2 u_SHAPES_9_1] n_SHAPES_9, sl_SHAPES_9⟩)
    (l_SHAPES_10 : K.lookup t_SHAPES_10 = some ⟨.type "tuple", od_SHAPES_10, .seq #[.int 2 u_SHAPES_10_0, .int 3 u_SHAPES_10_1] n_SHAPES_10, sl_SHAPES_10⟩)
    (l_SHAPES_11 : K.lookup t_SHAPES_11 = some ⟨.type "tuple", od_SHAPES_11, .seq #[.int 2 u_SHAPES_11_0, .int 2 u_SHAPES_11_1] n_SHAPES_11, sl_SHAPES_11⟩)
    (l_SHAPES_12 : K.lookup t_SHAPES_12 = some ⟨.type "tuple", od_SHAPES_12, .seq #[.int 3 u_SHAPES_12_0, .int 0 u_SHAPES_12_1] n_SHAPES_12, sl_SHAPES_12⟩) :
    ∃ fd : FuncData, (∀ (s : Shared) (us : List Value), us.length = (["calls"] : List Str).length → BindsTo s fd ⟨us, []⟩ ((["calls"] : List Str).zip us)) ∧ ∀ base : Heap, K.In base → base.Ns mainGlobals mg → FnOk P w K mg base CX0 9 fa fd ["calls"] (spAns K) := by
  have cl_Tally : Cls K C_Tally := ⟨pg_Tally, hd_Tally, po_Tally, sa_Tally⟩
  have m_Tally := PySem.W.mg_of X G a_Tally
  have cl_Reader : Cls K C_Reader := ⟨pg_Reader, hd_Reader, po_Reader, sa_Reader⟩
  have m_Reader := PySem.W.mg_of X G a_Reader
  have v_QUESTIONS := PySem.W.mg_of X G g_QUESTIONS
  have v_ROW_BYTES := PySem.W.mg_of X G g_ROW_BYTES
  have v_MOST_COUNTED := PySem.W.mg_of X G g_MOST_COUNTED
  have v_WORD_BITS := PySem.W.mg_of X G g_WORD_BITS
  have v_WORD_BYTES := PySem.W.mg_of X G g_WORD_BYTES
  have v_WORD_MASK := PySem.W.mg_of X G g_WORD_MASK
  have v_DOT_BITS := PySem.W.mg_of X G g_DOT_BITS
  have v_DOT_BYTES := PySem.W.mg_of X G g_DOT_BYTES
  have v_LEAST_HELD := PySem.W.mg_of X G g_LEAST_HELD
  have v_MOST_HELD := PySem.W.mg_of X G g_MOST_HELD
  have v_DONE := PySem.W.mg_of X G g_DONE
  have v_REFUSED := PySem.W.mg_of X G g_REFUSED
  have v_NO_SUCH_QUESTION := PySem.W.mg_of X G g_NO_SUCH_QUESTION
  have v_BEGIN := PySem.W.mg_of X G g_BEGIN
  have v_COUNT := PySem.W.mg_of X G g_COUNT
  have v_UNCOUNT := PySem.W.mg_of X G g_UNCOUNT
  have v_LEAST := PySem.W.mg_of X G g_LEAST
  have v_BETWEEN := PySem.W.mg_of X G g_BETWEEN
  have v_ODD := PySem.W.mg_of X G g_ODD
  have v_CHOOSE := PySem.W.mg_of X G g_CHOOSE
  have v_PICK := PySem.W.mg_of X G g_PICK
  have v_FIELDS := PySem.W.mg_of X G g_FIELDS
  have v_DOTS := PySem.W.mg_of X G g_DOTS
  have v_TESTS := PySem.W.mg_of X G g_TESTS
  have v_MAJORITY := PySem.W.mg_of X G g_MAJORITY
  have v_BY_THE_FIRST := PySem.W.mg_of X G g_BY_THE_FIRST
  have v_ODD_MANY := PySem.W.mg_of X G g_ODD_MANY
  have v_JUST_ONE := PySem.W.mg_of X G g_JUST_ONE
  have v_ALL_THE_SAME := PySem.W.mg_of X G g_ALL_THE_SAME
  have v_LANE_WIDTHS := PySem.W.mg_of X G a_LANE_WIDTHS
  have T_LANE_WIDTHS : TupIn K t_LANE_WIDTHS [1, 2, 4, 8] := ⟨_, _, _, l_LANE_WIDTHS, rfl, rfl, (by show 4 ≤ sizeLine; decide), (.cons ⟨_, rfl⟩ (.cons ⟨_, rfl⟩ (.cons ⟨_, rfl⟩ (.cons ⟨_, rfl⟩ .nil))))⟩
  have w_len := PySem.W.mg_none_of X G b_len
  have w_range := PySem.W.mg_none_of X G b_range
  have w_enumerate := PySem.W.mg_none_of X G b_enumerate
  have w_zip := PySem.W.mg_none_of X G b_zip
  have w_sum := PySem.W.mg_none_of X G b_sum
  have w_max := PySem.W.mg_none_of X G b_max
  have w_min := PySem.W.mg_none_of X G b_min
  have F_bit_of := fun_mk (st := s_bit_of) l_bit_of c_bit_of k_bit_of
  have B_bit_of := F_bit_of.binds (ps := ["number", "place"]) fun _ _ _ _ _ _ us hl => by obtain ⟨z0, z1, rfl⟩ := len2 hl; rfl
  have m_bit_of := PySem.W.mg_of X G a_bit_of
  have F_row_of := fun_mk (st := s_row_of) l_row_of c_row_of k_row_of
  have B_row_of := F_row_of.binds (ps := ["bits"]) fun _ _ _ _ _ _ us hl => by obtain ⟨z0, rfl⟩ := len1 hl; rfl
  have m_row_of := PySem.W.mg_of X G a_row_of
  have F_number_of := fun_mk (st := s_number_of) l_number_of c_number_of k_number_of
  have B_number_of := F_number_of.binds (ps := ["part"]) fun _ _ _ _ _ _ us hl => by obtain ⟨z0, rfl⟩ := len1 hl; rfl
  have m_number_of := PySem.W.mg_of X G a_number_of
  have F_bytes_of := fun_mk (st := s_bytes_of) l_bytes_of c_bytes_of k_bytes_of
  have B_bytes_of := F_bytes_of.binds (ps := ["number", "size"]) fun _ _ _ _ _ _ us hl => by obtain ⟨z0, z1, rfl⟩ := len2 hl; rfl
  have m_bytes_of := PySem.W.mg_of X G a_bytes_of
  have F_lanes_of := fun_mk (st := s_lanes_of) l_lanes_of c_lanes_of k_lanes_of
  have B_lanes_of := F_lanes_of.binds (ps := ["row", "w"]) fun _ _ _ _ _ _ us hl => by obtain ⟨z0, z1, rfl⟩ := len2 hl; rfl
  have m_lanes_of := PySem.W.mg_of X G a_lanes_of
  have F_row_of_lanes := fun_mk (st := s_row_of_lanes) l_row_of_lanes c_row_of_lanes k_row_of_lanes
  have B_row_of_lanes := F_row_of_lanes.binds (ps := ["lanes", "w"]) fun _ _ _ _ _ _ us hl => by obtain ⟨z0, z1, rfl⟩ := len2 hl; rfl
  have m_row_of_lanes := PySem.W.mg_of X G a_row_of_lanes
  have F_signed := fun_mk (st := s_signed) l_signed c_signed k_signed
  have B_signed := F_signed.binds (ps := ["number", "bits"]) fun _ _ _ _ _ _ us hl => by obtain ⟨z0, z1, rfl⟩ := len2 hl; rfl
  have m_signed := PySem.W.mg_of X G a_signed
  have F_is_marked := fun_mk (st := s_is_marked) l_is_marked c_is_marked k_is_marked
  have B_is_marked := F_is_marked.binds (ps := ["k", "ballot", "question"]) fun _ _ _ _ _ _ us hl => by obtain ⟨z0, z1, z2, rfl⟩ := len3 hl; rfl
  have m_is_marked := PySem.W.mg_of X G a_is_marked
  have F_marked_questions := fun_mk (st := s_marked_questions) l_marked_questions c_marked_questions k_marked_questions
  have B_marked_questions := F_marked_questions.binds (ps := ["k", "ballot"]) fun _ _ _ _ _ _ us hl => by obtain ⟨z0, z1, rfl⟩ := len2 hl; rfl
  have m_marked_questions := PySem.W.mg_of X G a_marked_questions
  have F_Tally_init := fun_mk (st := s_Tally_init) l_Tally_init c_Tally_init k_Tally_init
  have B_Tally_init := F_Tally_init.binds (ps := ["self"]) fun _ _ _ _ _ _ us hl => by obtain ⟨z0, rfl⟩ := len1 hl; rfl
  have K_Tally : Mk K C_Tally f_Tally_init := ⟨mk_Tally, a_Tally_init, i_Tally_init, kc_Tally⟩
  have F_Tally_begin := fun_mk (st := s_Tally_begin) l_Tally_begin c_Tally_begin k_Tally_begin
  have B_Tally_begin := F_Tally_begin.binds (ps := ["self"]) fun _ _ _ _ _ _ us hl => by obtain ⟨z0, rfl⟩ := len1 hl; rfl
  have M_Tally_begin : Meth K C_Tally "begin" f_Tally_begin := ⟨a_Tally_begin, i_Tally_begin, k_Tally_begin⟩
  have F_Tally_count := fun_mk (st := s_Tally_count) l_Tally_count c_Tally_count k_Tally_count
  have B_Tally_count := F_Tally_count.binds (ps := ["self", "k", "ballot"]) fun _ _ _ _ _ _ us hl => by obtain ⟨z0, z1, z2, rfl⟩ := len3 hl; rfl
  have M_Tally_count : Meth K C_Tally "count" f_Tally_count := ⟨a_Tally_count, i_Tally_count, k_Tally_count⟩
  have F_Tally_uncount := fun_mk (st := s_Tally_uncount) l_Tally_uncount c_Tally_uncount k_Tally_uncount
  have B_Tally_uncount := F_Tally_uncount.binds (ps := ["self", "k", "ballot"]) fun _ _ _ _ _ _ us hl => by obtain ⟨z0, z1, z2, rfl⟩ := len3 hl; rfl
  have M_Tally_uncount : Meth K C_Tally "uncount" f_Tally_uncount := ⟨a_Tally_uncount, i_Tally_uncount, k_Tally_uncount⟩
  have F_Tally_step_all := fun_mk (st := s_Tally_step_all) l_Tally_step_all c_Tally_step_all k_Tally_step_all
  have B_Tally_step_all := F_Tally_step_all.binds (ps := ["self", "questions", "step", "last"]) fun _ _ _ _ _ _ us hl => by obtain ⟨z0, z1, z2, z3, rfl⟩ := len4 hl; rfl
  have M_Tally_step_all : Meth K C_Tally "step_all" f_Tally_step_all := ⟨a_Tally_step_all, i_Tally_step_all, k_Tally_step_all⟩
  have F_Tally_least := fun_mk (st := s_Tally_least) l_Tally_least c_Tally_least k_Tally_least
  have B_Tally_least := F_Tally_least.binds (ps := ["self", "t"]) fun _ _ _ _ _ _ us hl => by obtain ⟨z0, z1, rfl⟩ := len2 hl; rfl
  have M_Tally_least : Meth K C_Tally "least" f_Tally_least := ⟨a_Tally_least, i_Tally_least, k_Tally_least⟩
  have F_Tally_between := fun_mk (st := s_Tally_between) l_Tally_between c_Tally_between k_Tally_between
  have B_Tally_between := F_Tally_between.binds (ps := ["self", "lo", "hi"]) fun _ _ _ _ _ _ us hl => by obtain ⟨z0, z1, z2, rfl⟩ := len3 hl; rfl
  have M_Tally_between : Meth K C_Tally "between" f_Tally_between := ⟨a_Tally_between, i_Tally_between, k_Tally_between⟩
  have F_Tally_odd := fun_mk (st := s_Tally_odd) l_Tally_odd c_Tally_odd k_Tally_odd
  have B_Tally_odd := F_Tally_odd.binds (ps := ["self"]) fun _ _ _ _ _ _ us hl => by obtain ⟨z0, rfl⟩ := len1 hl; rfl
  have M_Tally_odd : Meth K C_Tally "odd" f_Tally_odd := ⟨a_Tally_odd, i_Tally_odd, k_Tally_odd⟩
  have F_Tally_one := fun_mk (st := s_Tally_one) l_Tally_one c_Tally_one k_Tally_one
  have B_Tally_one := F_Tally_one.binds (ps := ["self", "question"]) fun _ _ _ _ _ _ us hl => by obtain ⟨z0, z1, rfl⟩ := len2 hl; rfl
  have M_Tally_one : Meth K C_Tally "one" f_Tally_one := ⟨a_Tally_one, i_Tally_one, k_Tally_one⟩
  have F_chosen := fun_mk (st := s_chosen) l_chosen c_chosen k_chosen
  have B_chosen := F_chosen.binds (ps := ["how", "a", "b", "c"]) fun _ _ _ _ _ _ us hl => by obtain ⟨z0, z1, z2, z3, rfl⟩ := len4 hl; rfl
  have m_chosen := PySem.W.mg_of X G a_chosen
  have F_choose := fun_mk (st := s_choose) l_choose c_choose k_choose
  have B_choose := F_choose.binds (ps := ["how", "a", "b", "c"]) fun _ _ _ _ _ _ us hl => by obtain ⟨z0, z1, z2, z3, rfl⟩ := len4 hl; rfl
  have m_choose := PySem.W.mg_of X G a_choose
  have F_pick := fun_mk (st := s_pick) l_pick c_pick k_pick
  have B_pick := F_pick.binds (ps := ["k", "w", "places", "a", "b"]) fun _ _ _ _ _ _ us hl => by obtain ⟨z0, z1, z2, z3, z4, rfl⟩ := len5 hl; rfl
  have m_pick := PySem.W.mg_of X G a_pick
  have F_field_of := fun_mk (st := s_field_of) l_field_of c_field_of k_field_of
  have B_field_of := F_field_of.binds (ps := ["word", "s"]) fun _ _ _ _ _ _ us hl => by obtain ⟨z0, z1, rfl⟩ := len2 hl; rfl
  have m_field_of := PySem.W.mg_of X G a_field_of
  have F_fields := fun_mk (st := s_fields) l_fields c_fields k_fields
  have B_fields := F_fields.binds (ps := ["k", "x", "at"]) fun _ _ _ _ _ _ us hl => by obtain ⟨z0, z1, z2, rfl⟩ := len3 hl; rfl
  have m_fields := PySem.W.mg_of X G a_fields
  have F_products_of := fun_mk (st := s_products_of) l_products_of c_products_of k_products_of
  have B_products_of := F_products_of.binds (ps := ["left", "right"]) fun _ _ _ _ _ _ us hl => by obtain ⟨z0, z1, rfl⟩ := len2 hl; rfl
  have m_products_of := PySem.W.mg_of X G a_products_of
  have F_dot := fun_mk (st := s_dot) l_dot c_dot k_dot
  have B_dot := F_dot.binds (ps := ["held", "start", "left", "right"]) fun _ _ _ _ _ _ us hl => by obtain ⟨z0, z1, z2, z3, rfl⟩ := len4 hl; rfl
  have m_dot := PySem.W.mg_of X G a_dot
  have F_dots := fun_mk (st := s_dots) l_dots c_dots k_dots
  have B_dots := F_dots.binds (ps := ["k", "held", "base", "a", "b"]) fun _ _ _ _ _ _ us hl => by obtain ⟨z0, z1, z2, z3, z4, rfl⟩ := len5 hl; rfl
  have m_dots := PySem.W.mg_of X G a_dots
  have F_common_mask := fun_mk (st := s_common_mask) l_common_mask c_common_mask k_common_mask
  have B_common_mask := F_common_mask.binds (ps := ["w", "none", "a", "b"]) fun _ _ _ _ _ _ us hl => by obtain ⟨z0, z1, z2, z3, rfl⟩ := len4 hl; rfl
  have m_common_mask := PySem.W.mg_of X G a_common_mask
  have F_join_bits := fun_mk (st := s_join_bits) l_join_bits c_join_bits k_join_bits
  have B_join_bits := F_join_bits.binds (ps := ["a", "b", "n"]) fun _ _ _ _ _ _ us hl => by obtain ⟨z0, z1, z2, rfl⟩ := len3 hl; rfl
  have m_join_bits := PySem.W.mg_of X G a_join_bits
  have F_Reader_init := fun_mk (st := s_Reader_init) l_Reader_init c_Reader_init k_Reader_init
  have B_Reader_init := F_Reader_init.binds (ps := ["self", "calls"]) fun _ _ _ _ _ _ us hl => by obtain ⟨z0, z1, rfl⟩ := len2 hl; rfl
  have K_Reader : Mk K C_Reader f_Reader_init := ⟨mk_Reader, a_Reader_init, i_Reader_init, kc_Reader⟩
  have F_Reader_is_done := fun_mk (st := s_Reader_is_done) l_Reader_is_done c_Reader_is_done k_Reader_is_done
  have B_Reader_is_done := F_Reader_is_done.binds (ps := ["self"]) fun _ _ _ _ _ _ us hl => by obtain ⟨z0, rfl⟩ := len1 hl; rfl
  have M_Reader_is_done : Meth K C_Reader "is_done" f_Reader_is_done := ⟨a_Reader_is_done, i_Reader_is_done, k_Reader_is_done⟩
  have F_Reader_take_numbers := fun_mk (st := s_Reader_take_numbers) l_Reader_take_numbers c_Reader_take_numbers k_Reader_take_numbers
  have B_Reader_take_numbers := F_Reader_take_numbers.binds (ps := ["self", "size"]) fun _ _ _ _ _ _ us hl => by obtain ⟨z0, z1, rfl⟩ := len2 hl; rfl
  have M_Reader_take_numbers : Meth K C_Reader "take_numbers" f_Reader_take_numbers := ⟨a_Reader_take_numbers, i_Reader_take_numbers, k_Reader_take_numbers⟩
  have F_Reader_take_number := fun_mk (st := s_Reader_take_number) l_Reader_take_number c_Reader_take_number k_Reader_take_number
  have B_Reader_take_number := F_Reader_take_number.binds (ps := ["self"]) fun _ _ _ _ _ _ us hl => by obtain ⟨z0, rfl⟩ := len1 hl; rfl
  have M_Reader_take_number : Meth K C_Reader "take_number" f_Reader_take_number := ⟨a_Reader_take_number, i_Reader_take_number, k_Reader_take_number⟩
  have F_Reader_take_row := fun_mk (st := s_Reader_take_row) l_Reader_take_row c_Reader_take_row k_Reader_take_row
  have B_Reader_take_row := F_Reader_take_row.binds (ps := ["self"]) fun _ _ _ _ _ _ us hl => by obtain ⟨z0, rfl⟩ := len1 hl; rfl
  have M_Reader_take_row : Meth K C_Reader "take_row" f_Reader_take_row := ⟨a_Reader_take_row, i_Reader_take_row, k_Reader_take_row⟩
  have F_answer_row_call := fun_mk (st := s_answer_row_call) l_answer_row_call c_answer_row_call k_answer_row_call
  have B_answer_row_call := F_answer_row_call.binds (ps := ["call", "numbers", "rows"]) fun _ _ _ _ _ _ us hl => by obtain ⟨z0, z1, z2, rfl⟩ := len3 hl; rfl
  have m_answer_row_call := PySem.W.mg_of X G a_answer_row_call
  have F_answer_tally_call := fun_mk (st := s_answer_tally_call) l_answer_tally_call c_answer_tally_call k_answer_tally_call
  have B_answer_tally_call := F_answer_tally_call.binds (ps := ["tally", "call", "numbers", "rows"]) fun _ _ _ _ _ _ us hl => by obtain ⟨z0, z1, z2, z3, rfl⟩ := len4 hl; rfl
  have m_answer_tally_call := PySem.W.mg_of X G a_answer_tally_call
  have F_answer_call := fun_mk (st := s_answer_call) l_answer_call c_answer_call k_answer_call
  have B_answer_call := F_answer_call.binds (ps := ["tally", "call", "numbers", "rows"]) fun _ _ _ _ _ _ us hl => by obtain ⟨z0, z1, z2, z3, rfl⟩ := len4 hl; rfl
  have m_answer_call := PySem.W.mg_of X G a_answer_call
  have F_next_answer := fun_mk (st := s_next_answer) l_next_answer c_next_answer k_next_answer
  have B_next_answer := F_next_answer.binds (ps := ["tally", "reader"]) fun _ _ _ _ _ _ us hl => by obtain ⟨z0, z1, rfl⟩ := len2 hl; rfl
  have m_next_answer := PySem.W.mg_of X G a_next_answer
  have F_answers := fun_mk (st := s_answers) l_answers c_answers k_answers
  have B_answers := F_answers.binds (ps := ["calls"]) fun _ _ _ _ _ _ us hl => by obtain ⟨z0, rfl⟩ := len1 hl; rfl
  have m_answers := PySem.W.mg_of X G a_answers
  have T_SHAPES : TabAt K d_SHAPES [(0, [0, 0]), (1, [1, 1]), (2, [1, 1]), (3, [1, 0]), (4, [2, 0]), (5, [0, 0]), (6, [1, 0]), (7, [1, 3]), (8, [2, 3]), (9, [1, 2]), (10, [2, 3]), (11, [2, 2]), (12, [3, 0])] := ⟨⟨_, _, _, l_SHAPES, ⟨rfl, rfl, rfl⟩, rfl, (.cons rfl (by show (0 : Int) = hashInt 0; decide +kernel) rfl ⟨_, _, _, l_SHAPES_0, rfl, rfl, (by show 2 ≤ sizeLine; decide), (.cons ⟨_, rfl⟩ (.cons ⟨_, rfl⟩ .nil))⟩ (.cons rfl (by show (1 : Int) = hashInt 1; decide +kernel) rfl ⟨_, _, _, l_SHAPES_1, rfl, rfl, (by show 2 ≤ sizeLine; decide), (.cons ⟨_, rfl⟩ (.cons ⟨_, rfl⟩ .nil))⟩ (.cons rfl (by show (2 : Int) = hashInt 2; decide +kernel) rfl ⟨_, _, _, l_SHAPES_2, rfl, rfl, (by show 2 ≤ sizeLine; decide), (.cons ⟨_, rfl⟩ (.cons ⟨_, rfl⟩ .nil))⟩ (.cons rfl (by show (3 : Int) = hashInt 3; decide +kernel) rfl ⟨_, _, _, l_SHAPES_3, rfl, rfl, (by show 2 ≤ sizeLine; decide), (.cons ⟨_, rfl⟩ (.cons ⟨_, rfl⟩ .nil))⟩ (.cons rfl (by show (4 : Int) = hashInt 4; decide +kernel) rfl ⟨_, _, _, l_SHAPES_4, rfl, rfl, (by show 2 ≤ sizeLine; decide), (.cons ⟨_, rfl⟩ (.cons ⟨_, rfl⟩ .nil))⟩ (.cons rfl (by show (5 : Int) = hashInt 5; decide +kernel) rfl ⟨_, _, _, l_SHAPES_5, rfl, rfl, (by show 2 ≤ sizeLine; decide), (.cons ⟨_, rfl⟩ (.cons ⟨_, rfl⟩ .nil))⟩ (.cons rfl (by show (6 : Int) = hashInt 6; decide +kernel) rfl ⟨_, _, _, l_SHAPES_6, rfl, rfl, (by show 2 ≤ sizeLine; decide), (.cons ⟨_, rfl⟩ (.cons ⟨_, rfl⟩ .nil))⟩ (.cons rfl (by show (7 : Int) = hashInt 7; decide +kernel) rfl ⟨_, _, _, l_SHAPES_7, rfl, rfl, (by show 2 ≤ sizeLine; decide), (.cons ⟨_, rfl⟩ (.cons ⟨_, rfl⟩ .nil))⟩ (.cons rfl (by show (8 : Int) = hashInt 8; decide +kernel) rfl ⟨_, _, _, l_SHAPES_8, rfl, rfl, (by show 2 ≤ sizeLine; decide), (.cons ⟨_, rfl⟩ (.cons ⟨_, rfl⟩ .nil))⟩ (.cons rfl (by show (9 : Int) = hashInt 9; decide +kernel) rfl ⟨_, _, _, l_SHAPES_9, rfl, rfl, (by show 2 ≤ sizeLine; decide), (.cons ⟨_, rfl⟩ (.cons ⟨_, rfl⟩ .nil))⟩ (.cons rfl (by show (10 : Int) = hashInt 10; decide +kernel) rfl ⟨_, _, _, l_SHAPES_10, rfl, rfl, (by show 2 ≤ sizeLine; decide), (.cons ⟨_, rfl⟩ (.cons ⟨_, rfl⟩ .nil))⟩ (.cons rfl (by show (11 : Int) = hashInt 11; decide +kernel) rfl ⟨_, _, _, l_SHAPES_11, rfl, rfl, (by show 2 ≤ sizeLine; decide), (.cons ⟨_, rfl⟩ (.cons ⟨_, rfl⟩ .nil))⟩ (.cons rfl (by show (12 : Int) = hashInt 12; decide +kernel) rfl ⟨_, _, _, l_SHAPES_12, rfl, rfl, (by show 2 ≤ sizeLine; decide), (.cons ⟨_, rfl⟩ (.cons ⟨_, rfl⟩ .nil))⟩ .nil)))))))))))))⟩, by decide⟩
  have m_SHAPES := PySem.W.mg_of X G a_SHAPES
  have e := hfa.symm.trans m_answers
  cases e
  have T : Txt K mg C_Tally C_Reader := ⟨cl_Tally, n_Tally_counts, cl_Reader, n_Reader_calls, n_Reader_place, ⟨_, v_QUESTIONS⟩, ⟨_, v_ROW_BYTES⟩, ⟨_, v_MOST_COUNTED⟩, ⟨_, v_DONE⟩, ⟨_, v_REFUSED⟩, ⟨_, v_NO_SUCH_QUESTION⟩, w_enumerate, w_range, w_len⟩
  refine ⟨PySem.W.fnOf "answers" "answers" (defArgs s_answers) (defBody s_answers) (defScope s_answers) .none kV_answers dc_answers pm_answers an_answers cd_answers ct_answers, fun s us hu => by obtain ⟨z0, rfl⟩ := len1 hu; exact .of_eq rfl, fun base _ _ => ?_⟩
  have GRow := ok_rowOf (P := P) (w := w) (base := base) F_row_of T
  have GIs := ok_isM (P := P) (w := w) (base := base) F_is_marked F_bit_of B_bit_of m_bit_of
  have GMk := ok_marked F_marked_questions T GIs F_is_marked.kp B_is_marked m_is_marked
  have GStep := ok_tStep (P := P) (w := w) (base := base) F_Tally_step_all T
  have GCount := ok_tCount F_Tally_count T GStep M_Tally_step_all B_Tally_step_all GMk F_marked_questions.kp B_marked_questions m_marked_questions
  have GUncount := ok_tUncount F_Tally_uncount T GStep M_Tally_step_all B_Tally_step_all GMk F_marked_questions.kp B_marked_questions m_marked_questions
  have GLeast := ok_tLeast F_Tally_least T GRow F_row_of.kp B_row_of m_row_of
  have GBetween := ok_tBetween F_Tally_between T GRow F_row_of.kp B_row_of m_row_of
  have GOdd := ok_tOdd F_Tally_odd T GRow F_row_of.kp B_row_of m_row_of
  have GOne := ok_tOne (P := P) (w := w) (base := base) F_Tally_one T
  have GBegin := ok_tBegin (P := P) (w := w) (base := base) F_Tally_begin T
  have GInit := ok_tInit (P := P) (w := w) (base := base) F_Tally_init T
  have GRInit := ok_rInit (P := P) (w := w) (base := base) F_Reader_init T
  have GDone := ok_rDone (P := P) (w := w) (base := base) F_Reader_is_done T
  have GNums := ok_rNums (P := P) (w := w) (base := base) F_Reader_take_numbers T
  have GNum := ok_rNum F_Reader_take_number T GNums M_Reader_take_numbers B_Reader_take_numbers
  have GRw := ok_rRow F_Reader_take_row T GNums M_Reader_take_numbers B_Reader_take_numbers GNum M_Reader_take_number B_Reader_take_number
  have T2 : Txt2 K mg := ⟨⟨_, v_LANE_WIDTHS, T_LANE_WIDTHS⟩, ⟨_, v_WORD_BITS⟩, ⟨_, v_WORD_BYTES⟩, ⟨_, v_WORD_MASK⟩, ⟨_, v_DOT_BITS⟩, ⟨_, v_DOT_BYTES⟩, ⟨_, v_LEAST_HELD⟩, ⟨_, v_MOST_HELD⟩, ⟨_, v_MAJORITY⟩, ⟨_, v_BY_THE_FIRST⟩, ⟨_, v_ODD_MANY⟩, ⟨_, v_JUST_ONE⟩, ⟨_, v_ALL_THE_SAME⟩, ⟨_, v_CHOOSE⟩, ⟨_, v_PICK⟩, ⟨_, v_FIELDS⟩, ⟨_, v_DOTS⟩, ⟨_, v_TESTS⟩, w_zip, w_sum, w_max, w_min⟩
  have N : Nums mg := ⟨⟨_, v_BEGIN⟩, ⟨_, v_COUNT⟩, ⟨_, v_UNCOUNT⟩, ⟨_, v_LEAST⟩, ⟨_, v_BETWEEN⟩, ⟨_, v_ODD⟩⟩
  have GBit := ok_bit (P := P) (w := w) (base := base) (mg := mg) F_bit_of
  have GNumber := ok_number (P := P) (w := w) (base := base) F_number_of T
  have GBytes := ok_bytes (P := P) (w := w) (base := base) F_bytes_of T
  have GLanes := ok_lanes F_lanes_of T GNumber F_number_of.kp B_number_of m_number_of
  have GRowL := ok_rowLanes F_row_of_lanes GBytes F_bytes_of.kp B_bytes_of m_bytes_of
  have GSigned := ok_signed F_signed GBit F_bit_of.kp B_bit_of m_bit_of
  have GChosen := ok_chosen (P := P) (w := w) (base := base) F_chosen T2
  have GChoose := ok_choose F_choose T GChosen F_chosen.kp B_chosen m_chosen
  have GPick := ok_pick F_pick T T2 GBit F_bit_of.kp B_bit_of m_bit_of GLanes F_lanes_of.kp B_lanes_of m_lanes_of GRowL F_row_of_lanes.kp B_row_of_lanes m_row_of_lanes
  have GField := ok_field (P := P) (w := w) (base := base) F_field_of T2
  have GFields := ok_fields F_fields T T2 GBit F_bit_of.kp B_bit_of m_bit_of GLanes F_lanes_of.kp B_lanes_of m_lanes_of GField F_field_of.kp B_field_of m_field_of
  have GProds := ok_prods F_products_of T2 GSigned F_signed.kp B_signed m_signed
  have GDot := ok_dot F_dot T2 GSigned F_signed.kp B_signed m_signed GProds F_products_of.kp B_products_of m_products_of
  have GDots := ok_dots F_dots T T2 GBit F_bit_of.kp B_bit_of m_bit_of GLanes F_lanes_of.kp B_lanes_of m_lanes_of GRowL F_row_of_lanes.kp B_row_of_lanes m_row_of_lanes GDot F_dot.kp B_dot m_dot
  have GMask := ok_mask F_common_mask T T2 GLanes F_lanes_of.kp B_lanes_of m_lanes_of
  have GJoin := ok_join (P := P) (w := w) (base := base) F_join_bits T2
  have GRowCall := ok_rowCall F_answer_row_call T2 GChoose F_choose.kp B_choose m_choose GPick F_pick.kp B_pick m_pick GFields F_fields.kp B_fields m_fields GDots F_dots.kp B_dots m_dots GMask F_common_mask.kp B_common_mask m_common_mask GJoin F_join_bits.kp B_join_bits m_join_bits
  have GTallyCall := ok_call7 F_answer_tally_call T N GBegin M_Tally_begin B_Tally_begin GCount M_Tally_count B_Tally_count GUncount M_Tally_uncount B_Tally_uncount GLeast M_Tally_least B_Tally_least GBetween M_Tally_between B_Tally_between GOdd M_Tally_odd B_Tally_odd GOne M_Tally_one B_Tally_one
  have GCall := ok_callAll F_answer_call T2 GTallyCall F_answer_tally_call.kp B_answer_tally_call m_answer_tally_call GRowCall F_answer_row_call.kp B_answer_row_call m_answer_row_call
  have GNext := ok_next F_next_answer T m_SHAPES T_SHAPES shaped GNums M_Reader_take_numbers B_Reader_take_numbers GNum M_Reader_take_number B_Reader_take_number GRw M_Reader_take_row B_Reader_take_row GCall F_answer_call.kp B_answer_call m_answer_call
  exact ok_ans F_answers T m_Tally m_Reader K_Tally GInit B_Tally_init K_Reader GRInit B_Reader_init GDone M_Reader_is_done B_Reader_is_done GNext F_next_answer.kp B_next_answer m_next_answer
end Br

end
set_option Elab.async false
set_option linter.all false
open PySem PySem.W PyProof.Rows
set_option maxRecDepth 100000 in
set_option maxHeartbeats 0 in
theorem PySem.Challenge.cw_ballotrows_s01_answers_holds : PySem.Challenge.rw_ballotrows_s01_answers.Holds := by
  w_on; k_headS; (case hw => exact ⟨[.list [.int 0]], by decide +kernel, by decide +kernel⟩)
  k_fillS
  refine L2.walk_specK (r := PySem.Challenge.rw_ballotrows_s01_answers) (k := 9) (CX := L2.CX0) (ps := ["calls"]) (sp := Br.spAns) (by decide +kernel) rfl rfl ⟨rfl, by decide, by decide⟩ (fun w h Y => PySem.W.kIn_of Y) ?F ?S (fun _ _ _ _ z => z)
  case F =>
    intro w mg fa h Y KX G hmg
    refine' Br.all_mk KX G hmg ?a_Tally ?pg_Tally ?hd_Tally ?po_Tally ?sa_Tally ?mk_Tally ?kc_Tally ?n_Tally_counts ?a_Reader ?pg_Reader ?hd_Reader ?po_Reader ?sa_Reader ?mk_Reader ?kc_Reader ?n_Reader_calls ?n_Reader_place ?g_QUESTIONS ?g_ROW_BYTES ?g_MOST_COUNTED ?g_WORD_BITS ?g_WORD_BYTES ?g_WORD_MASK ?g_DOT_BITS ?g_DOT_BYTES ?g_LEAST_HELD ?g_MOST_HELD ?g_DONE ?g_REFUSED ?g_NO_SUCH_QUESTION ?g_BEGIN ?g_COUNT ?g_UNCOUNT ?g_LEAST ?g_BETWEEN ?g_ODD ?g_CHOOSE ?g_PICK ?g_FIELDS ?g_DOTS ?g_TESTS ?g_MAJORITY ?g_BY_THE_FIRST ?g_ODD_MANY ?g_JUST_ONE ?g_ALL_THE_SAME ?a_LANE_WIDTHS ?l_LANE_WIDTHS ?b_len ?b_range ?b_enumerate ?b_zip ?b_sum ?b_max ?b_min ?a_bit_of ?l_bit_of ?c_bit_of ?k_bit_of ?a_row_of ?l_row_of ?c_row_of ?k_row_of ?a_number_of ?l_number_of ?c_number_of ?k_number_of ?a_bytes_of ?l_bytes_of ?c_bytes_of ?k_bytes_of ?a_lanes_of ?l_lanes_of ?c_lanes_of ?k_lanes_of ?a_row_of_lanes ?l_row_of_lanes ?c_row_of_lanes ?k_row_of_lanes ?a_signed ?l_signed ?c_signed ?k_signed ?a_is_marked ?l_is_marked ?c_is_marked ?k_is_marked ?a_marked_questions ?l_marked_questions ?c_marked_questions ?k_marked_questions ?a_Tally_init ?i_Tally_init ?l_Tally_init ?c_Tally_init ?k_Tally_init ?a_Tally_begin ?i_Tally_begin ?l_Tally_begin ?c_Tally_begin ?k_Tally_begin ?a_Tally_count ?i_Tally_count ?l_Tally_count ?c_Tally_count ?k_Tally_count ?a_Tally_uncount ?i_Tally_uncount ?l_Tally_uncount ?c_Tally_uncount ?k_Tally_uncount ?a_Tally_step_all ?i_Tally_step_all ?l_Tally_step_all ?c_Tally_step_all ?k_Tally_step_all ?a_Tally_least ?i_Tally_least ?l_Tally_least ?c_Tally_least ?k_Tally_least ?a_Tally_between ?i_Tally_between ?l_Tally_between ?c_Tally_between ?k_Tally_between ?a_Tally_odd ?i_Tally_odd ?l_Tally_odd ?c_Tally_odd ?k_Tally_odd ?a_Tally_one ?i_Tally_one ?l_Tally_one ?c_Tally_one ?k_Tally_one ?a_chosen ?l_chosen ?c_chosen ?k_chosen ?a_choose ?l_choose ?c_choose ?k_choose ?a_pick ?l_pick ?c_pick ?k_pick ?a_field_of ?l_field_of ?c_field_of ?k_field_of ?a_fields ?l_fields ?c_fields ?k_fields ?a_products_of ?l_products_of ?c_products_of ?k_products_of ?a_dot ?l_dot ?c_dot ?k_dot ?a_dots ?l_dots ?c_dots ?k_dots ?a_common_mask ?l_common_mask ?c_common_mask ?k_common_mask ?a_join_bits ?l_join_bits ?c_join_bits ?k_join_bits ?a_Reader_init ?i_Reader_init ?l_Reader_init ?c_Reader_init ?k_Reader_init ?a_Reader_is_done ?i_Reader_is_done ?l_Reader_is_done ?c_Reader_is_done ?k_Reader_is_done ?a_Reader_take_numbers ?i_Reader_take_numbers ?l_Reader_take_numbers ?c_Reader_take_numbers ?k_Reader_take_numbers ?a_Reader_take_number ?i_Reader_take_number ?l_Reader_take_number ?c_Reader_take_number ?k_Reader_take_number ?a_Reader_take_row ?i_Reader_take_row ?l_Reader_take_row ?c_Reader_take_row ?k_Reader_take_row ?a_answer_row_call ?l_answer_row_call ?c_answer_row_call ?k_answer_row_call ?a_answer_tally_call ?l_answer_tally_call ?c_answer_tally_call ?k_answer_tally_call ?a_answer_call ?l_answer_call ?c_answer_call ?k_answer_call ?a_next_answer ?l_next_answer ?c_next_answer ?k_next_answer ?a_answers ?l_answers ?c_answers ?k_answers ?a_SHAPES ?l_SHAPES ?l_SHAPES_0 ?l_SHAPES_1 ?l_SHAPES_2 ?l_SHAPES_3 ?l_SHAPES_4 ?l_SHAPES_5 ?l_SHAPES_6 ?l_SHAPES_7 ?l_SHAPES_8 ?l_SHAPES_9 ?l_SHAPES_10 ?l_SHAPES_11 ?l_SHAPES_12
    (case a_Tally => k_is)
    (case pg_Tally => k_is)
    (case hd_Tally => k_is)
    (case po_Tally => k_is)
    (case sa_Tally => k_is)
    (case mk_Tally => k_is)
    (case kc_Tally => k_is)
    (case n_Tally_counts => k_is)
    (case a_Reader => k_is)
    (case pg_Reader => k_is)
    (case hd_Reader => k_is)
    (case po_Reader => k_is)
    (case sa_Reader => k_is)
    (case mk_Reader => k_is)
    (case kc_Reader => k_is)
    (case n_Reader_calls => k_is)
    (case n_Reader_place => k_is)
    (case g_QUESTIONS => k_is)
    (case g_ROW_BYTES => k_is)
    (case g_MOST_COUNTED => k_is)
    (case g_WORD_BITS => k_is)
    (case g_WORD_BYTES => k_is)
    (case g_WORD_MASK => k_is)
    (case g_DOT_BITS => k_is)
    (case g_DOT_BYTES => k_is)
    (case g_LEAST_HELD => k_is)
    (case g_MOST_HELD => k_is)
    (case g_DONE => k_is)
    (case g_REFUSED => k_is)
    (case g_NO_SUCH_QUESTION => k_is)
    (case g_BEGIN => k_is)
    (case g_COUNT => k_is)
    (case g_UNCOUNT => k_is)
    (case g_LEAST => k_is)
    (case g_BETWEEN => k_is)
    (case g_ODD => k_is)
    (case g_CHOOSE => k_is)
    (case g_PICK => k_is)
    (case g_FIELDS => k_is)
    (case g_DOTS => k_is)
    (case g_TESTS => k_is)
    (case g_MAJORITY => k_is)
    (case g_BY_THE_FIRST => k_is)
    (case g_ODD_MANY => k_is)
    (case g_JUST_ONE => k_is)
    (case g_ALL_THE_SAME => k_is)
    (case a_LANE_WIDTHS => k_is)
    (case l_LANE_WIDTHS => k_is)
    (case b_len => k_is)
    (case b_range => k_is)
    (case b_enumerate => k_is)
    (case b_zip => k_is)
    (case b_sum => k_is)
    (case b_max => k_is)
    (case b_min => k_is)
    (case a_bit_of => k_is)
    (case l_bit_of => k_is)
    (case c_bit_of => k_is)
    (case k_bit_of => k_is)
    (case a_row_of => k_is)
    (case l_row_of => k_is)
    (case c_row_of => k_is)
    (case k_row_of => k_is)
    (case a_number_of => k_is)
    (case l_number_of => k_is)
    (case c_number_of => k_is)
    (case k_number_of => k_is)
    (case a_bytes_of => k_is)
    (case l_bytes_of => k_is)
    (case c_bytes_of => k_is)
    (case k_bytes_of => k_is)
    (case a_lanes_of => k_is)
    (case l_lanes_of => k_is)
    (case c_lanes_of => k_is)
    (case k_lanes_of => k_is)
    (case a_row_of_lanes => k_is)
    (case l_row_of_lanes => k_is)
    (case c_row_of_lanes => k_is)
    (case k_row_of_lanes => k_is)
    (case a_signed => k_is)
    (case l_signed => k_is)
    (case c_signed => k_is)
    (case k_signed => k_is)
    (case a_is_marked => k_is)
    (case l_is_marked => k_is)
    (case c_is_marked => k_is)
    (case k_is_marked => k_is)
    (case a_marked_questions => k_is)
    (case l_marked_questions => k_is)
    (case c_marked_questions => k_is)
    (case k_marked_questions => k_is)
    (case a_Tally_init => k_is)
    (case i_Tally_init => k_is)
    (case l_Tally_init => k_is)
    (case c_Tally_init => k_is)
    (case k_Tally_init => k_is)
    (case a_Tally_begin => k_is)
    (case i_Tally_begin => k_is)
    (case l_Tally_begin => k_is)
    (case c_Tally_begin => k_is)
    (case k_Tally_begin => k_is)
    (case a_Tally_count => k_is)
    (case i_Tally_count => k_is)
    (case l_Tally_count => k_is)
    (case c_Tally_count => k_is)
    (case k_Tally_count => k_is)
    (case a_Tally_uncount => k_is)
    (case i_Tally_uncount => k_is)
    (case l_Tally_uncount => k_is)
    (case c_Tally_uncount => k_is)
    (case k_Tally_uncount => k_is)
    (case a_Tally_step_all => k_is)
    (case i_Tally_step_all => k_is)
    (case l_Tally_step_all => k_is)
    (case c_Tally_step_all => k_is)
    (case k_Tally_step_all => k_is)
    (case a_Tally_least => k_is)
    (case i_Tally_least => k_is)
    (case l_Tally_least => k_is)
    (case c_Tally_least => k_is)
    (case k_Tally_least => k_is)
    (case a_Tally_between => k_is)
    (case i_Tally_between => k_is)
    (case l_Tally_between => k_is)
    (case c_Tally_between => k_is)
    (case k_Tally_between => k_is)
    (case a_Tally_odd => k_is)
    (case i_Tally_odd => k_is)
    (case l_Tally_odd => k_is)
    (case c_Tally_odd => k_is)
    (case k_Tally_odd => k_is)
    (case a_Tally_one => k_is)
    (case i_Tally_one => k_is)
    (case l_Tally_one => k_is)
    (case c_Tally_one => k_is)
    (case k_Tally_one => k_is)
    (case a_chosen => k_is)
    (case l_chosen => k_is)
    (case c_chosen => k_is)
    (case k_chosen => k_is)
    (case a_choose => k_is)
    (case l_choose => k_is)
    (case c_choose => k_is)
    (case k_choose => k_is)
    (case a_pick => k_is)
    (case l_pick => k_is)
    (case c_pick => k_is)
    (case k_pick => k_is)
    (case a_field_of => k_is)
    (case l_field_of => k_is)
    (case c_field_of => k_is)
    (case k_field_of => k_is)
    (case a_fields => k_is)
    (case l_fields => k_is)
    (case c_fields => k_is)
    (case k_fields => k_is)
    (case a_products_of => k_is)
    (case l_products_of => k_is)
    (case c_products_of => k_is)
    (case k_products_of => k_is)
    (case a_dot => k_is)
    (case l_dot => k_is)
    (case c_dot => k_is)
    (case k_dot => k_is)
    (case a_dots => k_is)
    (case l_dots => k_is)
    (case c_dots => k_is)
    (case k_dots => k_is)
    (case a_common_mask => k_is)
    (case l_common_mask => k_is)
    (case c_common_mask => k_is)
    (case k_common_mask => k_is)
    (case a_join_bits => k_is)
    (case l_join_bits => k_is)
    (case c_join_bits => k_is)
    (case k_join_bits => k_is)
    (case a_Reader_init => k_is)
    (case i_Reader_init => k_is)
    (case l_Reader_init => k_is)
    (case c_Reader_init => k_is)
    (case k_Reader_init => k_is)
    (case a_Reader_is_done => k_is)
    (case i_Reader_is_done => k_is)
    (case l_Reader_is_done => k_is)
    (case c_Reader_is_done => k_is)
    (case k_Reader_is_done => k_is)
    (case a_Reader_take_numbers => k_is)
    (case i_Reader_take_numbers => k_is)
    (case l_Reader_take_numbers => k_is)
    (case c_Reader_take_numbers => k_is)
    (case k_Reader_take_numbers => k_is)
    (case a_Reader_take_number => k_is)
    (case i_Reader_take_number => k_is)
    (case l_Reader_take_number => k_is)
    (case c_Reader_take_number => k_is)
    (case k_Reader_take_number => k_is)
    (case a_Reader_take_row => k_is)
    (case i_Reader_take_row => k_is)
    (case l_Reader_take_row => k_is)
    (case c_Reader_take_row => k_is)
    (case k_Reader_take_row => k_is)
    (case a_answer_row_call => k_is)
    (case l_answer_row_call => k_is)
    (case c_answer_row_call => k_is)
    (case k_answer_row_call => k_is)
    (case a_answer_tally_call => k_is)
    (case l_answer_tally_call => k_is)
    (case c_answer_tally_call => k_is)
    (case k_answer_tally_call => k_is)
    (case a_answer_call => k_is)
    (case l_answer_call => k_is)
    (case c_answer_call => k_is)
    (case k_answer_call => k_is)
    (case a_next_answer => k_is)
    (case l_next_answer => k_is)
    (case c_next_answer => k_is)
    (case k_next_answer => k_is)
    (case a_answers => k_is)
    (case l_answers => k_is)
    (case c_answers => k_is)
    (case k_answers => k_is)
    (case a_SHAPES => k_is)
    (case l_SHAPES => k_is)
    (case l_SHAPES_0 => k_is)
    (case l_SHAPES_1 => k_is)
    (case l_SHAPES_2 => k_is)
    (case l_SHAPES_3 => k_is)
    (case l_SHAPES_4 => k_is)
    (case l_SHAPES_5 => k_is)
    (case l_SHAPES_6 => k_is)
    (case l_SHAPES_7 => k_is)
    (case l_SHAPES_8 => k_is)
    (case l_SHAPES_9 => k_is)
    (case l_SHAPES_10 => k_is)
    (case l_SHAPES_11 => k_is)
    (case l_SHAPES_12 => k_is)
  case S =>
    intro K H xs a hO hwi hask hx
    cases hx with
    | cons h1 h2 =>
      cases h2
      cases h1 with
      | lst hs ha =>
        have e := L2.ints_dw a.1 _ ha
        subst e
        obtain ⟨cs, e1, e2, e3, e4⟩ := Br.asked_calls (l := a.1) hask
        refine ⟨_, cs, rfl, ?_, e2, fun c hc => Br.ok_of (e3 c hc), fun H' q hq => ?_⟩
        · rw [← e1]
          exact Br.ArgAt.of hO hs
        · show L2.Dw K H' (.ref q) (WData.list ((PySv04.answers a.1).map WData.int))
          rw [e4]
          exact .lst (L2.SqL.of hq) (L2.dw_ints _)
