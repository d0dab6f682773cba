/- A part of the proof of YtiodfmiielnngaaGreatOrdersAreMatrices: contracts of functions. -/
import Derived.Test.YtiodfmiielnngaaGreatRows
import Derived.WalkKit
import Derived.WalkSpells
import Derived.WalkLawsBesides
import Derived.Deep.QuietTactic
import Derived.BigQuiet
import Derived.ProofKit
import Derived.OpenShut
import Derived.ShutString
import Derived.ChangeOld
import Derived.Below
import Derived.Lib.SmallJoins
import Derived.Lib.Hide
import Derived.Shelf.Small.Bits
import Derived.Shelf.Small.Wraps
import Derived.Shelf.Strconv.Itoa0
import Derived.Shelf.Sort.Plain
import Derived.Shelf.Slices.Reverse
import Derived.Shelf.Slices.Equal
import Derived.Shelf.Slices.CompactI
import Derived.Shelf.Slices.SearchI
import Derived.Shelf.Slices.Delete
import Derived.Shelf.Slices.Cells
import Derived.Shelf.Slices.In.SortNone
import Derived.Shelf.Slices.Empties
import Derived.Shelf.Slices.Empties2
import Derived.Shelf.SlicesE.Reverse
import Derived.Shelf.SlicesE.Delete
import Derived.Sort.OwnSortedInts
import Derived.Lib.SliceRun
import Derived.Deep.RegionLaw
import Derived.Maps.AppendAt
import Derived.Deep.AppendLies
import Derived.Deep.RegionHeld3
import Derived.Lib.SlicesCompact
import Derived.Lib.RowBridge
import Derived.Test.YtiodfmiielnngaaGreatOrdersAreMatricesP2
namespace Go.Proofs.YtiodfmiielnngaaGreat.ordersAreMatrices
open Go Go.RowKit
set_option linter.unusedVariables false
set_option linter.unusedSimpArgs false
set_option maxHeartbeats 400000
open Go.Shelf
theorem Rd.drawn {w w' : World} {p : Nat} {a : Option Addr} {xs : List Int} (h : Rd w a xs) (hd : Drawn w w' p) (hne : ∀ b off, a = some ⟨b, off, none⟩ → b ≠ p) : Rd w' a xs :=
  ⟨h.len, fun k hk => by
    obtain ⟨b, off, e, hl, hc⟩ := h.cell k hk
    exact ⟨b, off, e, Nat.lt_of_lt_of_le hl hd.size, World.grownBy.cell hd hc (by have := hne b off e; simp; omega)⟩⟩
theorem among_any (p L : Nat) (a : Option Addr) (xs : List Int) (n cap : Nat) (w : World) (h : Cur w p L) (hL : L ≤ 900000000) (hx : Rd w a xs) (hl : xs.length = n) (h0 : 0 < n) (h1 : n ≤ 1000) (hne : ∀ b off, a = some ⟨b, off, none⟩ → b ≠ p) :
    Calls Tryz.prog 81 #[.pointer (some ⟨p, 0, none⟩), .slice a n cap] w fun e w' => ∃ k, k < n ∧ e = .returned (.int .i64 (nth xs k)) ∧ Cur w' p (L+2) ∧ Drawn w w' p := by
  have H := Lib.hid h
  have HX := Lib.hid hx
  have HNE := Lib.hid hne
  have HL := Lib.hid hl
  clear h hx hne hl
  go_enter Tryz.func81, Tryz.ntmps81
  go_wp2_with fail
  refine (pick_any p L (n : Int) _ H.out hL (by omega)).mono ?_
  rintro e w1 ⟨r, rfl, hr0, hr1, hc1, hd1⟩
  have HC1 := Lib.hid hc1
  have HD1 := Lib.hid hd1
  clear hc1 hd1
  obtain ⟨k, rfl⟩ := Int.eq_ofNat_of_zero_le hr0
  have hk : k < n := by omega
  obtain ⟨b, off, rfl, hbl, hc⟩ := (HX.out.drawn HD1.out HNE.out).cell k (by rw [HL.out]; exact hk)
  have k1 : (k : Int) < (n : Int) := by omega
  clear hr0 hr1
  go_wp2_with fail
  go_ret
  exact ⟨k, hk, rfl, HC1.out, HD1.out⟩

/-- is the number at k an element, and greater than the one before it? -/
def okI (n : Int) (es : List Int) (k : Nat) : Bool := elemB (nth es k) n && (k == 0 || decide (nth es (k-1) < nth es k))
def incB (n : Int) (es : List Int) : Bool := (List.range es.length).all (okI n es)
theorem incB_iff {n : Int} {es : List Int} : incB n es = true ↔ ∀ k, k < es.length → okI n es k = true := by simp [incB]
theorem incB_no {n : Int} {es : List Int} {k : Nat} (hk : k < es.length) (h : okI n es k = false) : incB n es = false := by
  rw [← Bool.not_eq_true, incB_iff]
  intro h2
  rw [h2 k hk] at h
  cases h
theorem okI_elem {n : Int} {es : List Int} {k : Nat} (h : okI n es k = true) : 0 ≤ nth es k ∧ nth es k < n := by
  simp only [okI, Bool.and_eq_true] at h
  exact elemB_iff.1 h.1
theorem inc_ge {n : Int} {es : List Int} (h : ∀ k, k < es.length → okI n es k = true) : ∀ k, k < es.length → (k : Int) ≤ nth es k
  | 0, hk => by have := (okI_elem (h 0 hk)).1; simpa using this
  | k+1, hk => by
    have ih := inc_ge h k (by omega)
    have := h (k+1) hk
    simp only [okI, Bool.and_eq_true, Bool.or_eq_true, beq_iff_eq, decide_eq_true_eq] at this
    rcases this.2 with h0 | h0
    · omega
    · simp only [Nat.add_sub_cancel] at h0
      push_cast
      omega
theorem inc_len {n : Int} {es : List Int} (h : incB n es = true) (hn : 0 ≤ n) : (es.length : Int) ≤ n := by
  rw [incB_iff] at h
  rcases Nat.eq_zero_or_pos es.length with h0 | h0
  · omega
  · have h1 := inc_ge h (es.length - 1) (by omega)
    have h2 := (okI_elem (h (es.length - 1) (by omega))).2
    omega

/-- the set of the first k numbers of a list -/
def setTo (es : List Int) : Nat → Nat
  | 0 => 0
  | k+1 => setTo es k ||| 2 ^ (nth es k).toNat
/-- how many numbers less than n are in a set -/
def card (s : Nat) : Nat → Nat
  | 0 => 0
  | n+1 => card s n + (if s.testBit n then 1 else 0)
theorem card_or (s x : Nat) : ∀ n, card (s ||| 2 ^ x) n = card s n + (if x < n ∧ s.testBit x = false then 1 else 0)
  | 0 => by simp [card]
  | n+1 => by
    have ih := card_or s x n
    simp only [card, ih, Nat.testBit_or, testBit_two]
    by_cases h : x = n
    · subst h
      cases s.testBit x <;> simp
    · have h2 : x < n + 1 ↔ x < n := by omega
      simp only [h, decide_false, Bool.or_false, h2]
      omega
theorem card_le (s : Nat) : ∀ n, card s n ≤ n
  | 0 => Nat.le_refl _
  | n+1 => by
    have := card_le s n
    simp only [card]
    split <;> omega
theorem card_full {s : Nat} : ∀ n, card s n = n → ∀ i, i < n → s.testBit i = true
  | 0, _, i, hi => by omega
  | n+1, h, i, hi => by
    have h1 := card_le s n
    simp only [card] at h
    cases hb : s.testBit n
    · rw [hb] at h
      simp at h
      omega
    · rw [hb] at h
      simp at h
      by_cases e : i = n
      · rw [e]; exact hb
      · exact card_full n h i (by omega)
theorem card_all {s : Nat} : ∀ n, (∀ i, i < n → s.testBit i = true) → card s n = n
  | 0, _ => rfl
  | n+1, h => by
    simp only [card, h n (by omega), if_true]
    rw [card_all n (fun i hi => h i (by omega))]
theorem setTo_bit (es : List Int) (j : Nat) : ∀ k, (setTo es k).testBit j = true ↔ ∃ i, i < k ∧ (nth es i).toNat = j
  | 0 => by simp [setTo]
  | k+1 => by
    have ih := setTo_bit es j k
    simp only [setTo]
    rw [Nat.testBit_or, Bool.or_eq_true, ih, testBit_two, decide_eq_true_eq]
    constructor
    · rintro (⟨i, h1, h2⟩ | h)
      · exact ⟨i, by omega, h2⟩
      · exact ⟨k, by omega, h⟩
    · rintro ⟨i, h1, h2⟩
      by_cases e : i = k
      · subst e; exact .inr h2
      · exact .inl ⟨i, by omega, h2⟩
theorem setTo_lt {es : List Int} {m : Nat} : ∀ k, (∀ i, i < k → (nth es i).toNat < m) → setTo es k < 2 ^ m
  | 0, _ => by simp only [setTo]; exact Nat.two_pow_pos m
  | k+1, h => or_lt (setTo_lt k (fun i hi => h i (by omega))) (two_lt (h k (by omega)))
theorem card_setTo_le {es : List Int} {m : Nat} : ∀ k, card (setTo es k) m ≤ k
  | 0 => by
    have : ∀ m, card 0 m = 0 := by
      intro m
      induction m with
      | zero => rfl
      | succ m ih => simp [card, ih]
    simp [setTo, this]
  | k+1 => by
    have ih := card_setTo_le (es := es) (m := m) k
    simp only [setTo, card_or]
    split <;> omega
/-- is the number at k an element that was not there before? -/
def okN (n : Int) (es : List Int) (k : Nat) : Bool := elemB (nth es k) n && !(setTo es k).testBit (nth es k).toNat
/-- has a list each element once? -/
def permB (n : Int) (es : List Int) : Bool := decide ((es.length : Int) = n) && (List.range es.length).all (okN n es)
theorem permB_iff {n : Int} {es : List Int} : permB n es = true ↔ (es.length : Int) = n ∧ ∀ k, k < es.length → okN n es k = true := by simp [permB]
theorem permB_no {n : Int} {es : List Int} {k : Nat} (hk : k < es.length) (h : okN n es k = false) : permB n es = false := by
  rw [← Bool.not_eq_true, permB_iff]
  rintro ⟨_, h2⟩
  rw [h2 k hk] at h
  cases h
theorem okN_elem {n : Int} {es : List Int} {k : Nat} (h : okN n es k = true) : 0 ≤ nth es k ∧ nth es k < n := by
  simp only [okN, Bool.and_eq_true] at h
  exact elemB_iff.1 h.1
theorem okN_new {n : Int} {es : List Int} {k : Nat} (h : okN n es k = true) : (setTo es k).testBit (nth es k).toNat = false := by
  simp only [okN, Bool.and_eq_true, Bool.not_eq_true'] at h
  exact h.2
theorem card_perm {n : Int} {es : List Int} (h : ∀ k, k < es.length → okN n es k = true) : ∀ k, k ≤ es.length → card (setTo es k) n.toNat = k
  | 0, _ => by
    have := card_setTo_le (es := es) (m := n.toNat) 0
    omega
  | k+1, hk => by
    have ih := card_perm h k (by omega)
    have h1 := h k (by omega)
    have h2 := okN_elem h1
    have h3 := okN_new h1
    simp only [setTo, card_or, ih]
    rw [if_pos ⟨by omega, h3⟩]
/-- in a list that has each element once, each element stands somewhere -/
theorem perm_onto {n : Int} {es : List Int} (h : permB n es = true) {x : Nat} (hx : x < es.length) : ∃ i, i < es.length ∧ nth es i = (x : Int) := by
  rw [permB_iff] at h
  have hc := card_perm h.2 es.length (Nat.le_refl _)
  have hb := card_full n.toNat (by rw [hc]; omega) x (by omega)
  obtain ⟨i, hi, e⟩ := (setTo_bit es x es.length).1 hb
  have := okN_elem (h.2 i hi)
  exact ⟨i, hi, by omega⟩
theorem perm_inj {n : Int} {es : List Int} (h : permB n es = true) {i j : Nat} (hi : i < es.length) (hj : j < es.length) (e : nth es i = nth es j) : i = j := by
  rw [permB_iff] at h
  rcases Nat.lt_trichotomy i j with h1 | h1 | h1
  · have := okN_new (h.2 j hj)
    rw [(setTo_bit es _ j).2 ⟨i, h1, by rw [e]⟩] at this
    cases this
  · exact h1
  · have := okN_new (h.2 i hi)
    rw [(setTo_bit es _ i).2 ⟨j, h1, by rw [e]⟩] at this
    cases this
theorem full_bits (n i : Nat) : (2 ^ n - 1).testBit i = decide (i < n) := Nat.testBit_two_pow_sub_one n i
theorem names_eq {n : Int} {es : List Int} (h0 : 0 ≤ n) : permB n es = (decide ((es.length : Int) = n) && allB es 0 (n - 1) && decide (setTo es es.length = 2 ^ n.toNat - 1)) := by
  rw [Bool.eq_iff_iff]
  constructor
  · intro h
    have h' := permB_iff.1 h
    have hall : allB es 0 (n - 1) = true := by
      simp only [allB, List.all_eq_true]
      intro x hx
      obtain ⟨k, hk, rfl⟩ := mem_nth hx
      have := okN_elem (h'.2 k hk)
      rw [inB_iff]; omega
    have hset : setTo es es.length = 2 ^ n.toNat - 1 := by
      apply Nat.eq_of_testBit_eq
      intro i
      rw [full_bits, Bool.eq_iff_iff, setTo_bit, decide_eq_true_eq]
      constructor
      · rintro ⟨k, hk, rfl⟩
        have := okN_elem (h'.2 k hk)
        omega
      · intro hi
        obtain ⟨k, hk, e⟩ := perm_onto h (x := i) (by omega)
        exact ⟨k, hk, by rw [e]; rfl⟩
    simp [h'.1, hall, hset]
  · intro h
    simp only [Bool.and_eq_true, decide_eq_true_eq] at h
    obtain ⟨⟨h1, h2⟩, h3⟩ := h
    rw [permB_iff]
    refine ⟨h1, fun k hk => ?_⟩
    have hel : ∀ k, k < es.length → 0 ≤ nth es k ∧ nth es k < n := fun k hk => by have := allB_nth h2 hk; omega
    have hk1 := hel k hk
    simp only [okN, Bool.and_eq_true, Bool.not_eq_true']
    refine ⟨elemB_iff.2 hk1, ?_⟩
    -- were it there before, too few would be there in the end
    rw [← Bool.not_eq_true]
    intro hb
    have hle : ∀ m, m ≤ es.length → k < m → card (setTo es m) n.toNat ≤ m - 1 := by
      intro m
      induction m with
      | zero => intro _ hkm; omega
      | succ m ih =>
        intro hm hkm
        simp only [setTo, card_or]
        by_cases e : k = m
        · subst e
          rw [if_neg (by rintro ⟨_, h5⟩; rw [hb] at h5; cases h5)]
          have := card_setTo_le (es := es) (m := n.toNat) k
          omega
        · have := ih (by omega) (by omega)
          split <;> omega
    have h5 := hle es.length (Nat.le_refl _) hk
    rw [h3, card_all n.toNat (fun i hi => by rw [full_bits]; simpa using hi)] at h5
    omega

theorem card_mono {s t : Nat} : ∀ n, (∀ i, i < n → s.testBit i = true → t.testBit i = true) → card s n ≤ card t n
  | 0, _ => Nat.le_refl _
  | n+1, h => by
    have ih := card_mono n (fun i hi => h i (by omega))
    have h1 := h n (by omega)
    simp only [card]
    cases hs : s.testBit n
    · simp; split <;> omega
    · rw [h1 hs]; simp; omega
theorem card_lt {s t : Nat} : ∀ n, (∀ i, i < n → s.testBit i = true → t.testBit i = true) → (∃ i, i < n ∧ s.testBit i = false ∧ t.testBit i = true) → card s n < card t n
  | 0, _, ⟨i, hi, _⟩ => by omega
  | n+1, h, ⟨i, hi, h1, h2⟩ => by
    simp only [card]
    by_cases e : i = n
    · subst e
      have := card_mono i (fun j hj => h j (by omega))
      rw [h1, h2]; simp; omega
    · have ih := card_lt n (fun j hj => h j (by omega)) ⟨i, by omega, h1, h2⟩
      have h3 := h n (by omega)
      cases hs : s.testBit n
      · simp; split <;> omega
      · rw [h3 hs]; simp; omega
/-- may the element come next, when those of a set have come? -/
def firstOk (xs : List Int) (S i : Nat) : Bool := !S.testBit i && decide (sub (belowTo xs (i : Int) xs.length) S = 0)
theorem firstOk_iff {xs : List Int} {S i : Nat} : firstOk xs S i = true ↔ S.testBit i = false ∧ sub (belowTo xs (i : Int) xs.length) S = 0 := by simp [firstOk]
theorem below_sub {n : Int} {xs : List Int} (h : ordB n xs = true) {i j : Nat} (hj : j < xs.length) (hji : hasB (nth xs j) i = true) :
    card (belowTo xs (j : Int) xs.length) xs.length < card (belowTo xs (i : Int) xs.length) xs.length := by
  have ho := (ordB_iff.1 h).2
  refine card_lt _ (fun m hm hb => ?_) ⟨j, hj, ?_, ?_⟩
  · rw [belowTo_bit] at hb ⊢
    simp only [hm, decide_true, Bool.true_and] at hb ⊢
    have h1 := (okAtB_iff.1 (ho m hm)).2 j hj hb
    exact sub_zero.1 h1 _ hji
  · rw [belowTo_bit]
    simp only [hj, decide_true, Bool.true_and]
    exact (okAtB_iff.1 (ho j hj)).1
  · rw [belowTo_bit]
    simp only [hj, decide_true, Bool.true_and]
    exact hji
theorem first_some {n : Int} {xs : List Int} (h : ordB n xs = true) (S : Nat) : ∀ c i, i < xs.length → S.testBit i = false → card (belowTo xs (i : Int) xs.length) xs.length < c → ∃ m, m < xs.length ∧ firstOk xs S m = true
  | 0, _, _, _, hc => by omega
  | c+1, i, hi, hS, hc => by
    by_cases hz : sub (belowTo xs (i : Int) xs.length) S = 0
    · exact ⟨i, hi, firstOk_iff.2 ⟨hS, hz⟩⟩
    · rw [sub_zero] at hz
      simp only [Classical.not_forall] at hz
      obtain ⟨j, hb, hn⟩ := hz
      rw [belowTo_bit] at hb
      simp only [Bool.and_eq_true, decide_eq_true_eq] at hb
      have := below_sub h hb.1 hb.2
      exact first_some h S c j hb.1 (by simpa using hn) (by omega)
theorem first_ex {n : Int} {xs : List Int} (h : ordB n xs = true) {S : Nat} (hc : card S xs.length < xs.length) : ∃ m, m < xs.length ∧ firstOk xs S m = true := by
  by_cases hz : ∀ i, i < xs.length → S.testBit i = true
  · rw [card_all _ hz] at hc; omega
  · simp only [Classical.not_forall] at hz
    obtain ⟨i, hi, hn⟩ := hz
    exact first_some h S _ i hi (by simpa using hn) (Nat.lt_succ_self _)
/-- the first element that may come next -/
def nxt (xs : List Int) (S : Nat) : Nat := ((List.range xs.length).find? (firstOk xs S)).getD 0
theorem nxt_eq {xs : List Int} {S m : Nat} (hm : m < xs.length) (h : firstOk xs S m = true) (hb : ∀ j, j < m → firstOk xs S j = false) : nxt xs S = m := by
  have : (List.range xs.length).find? (firstOk xs S) = some m := by
    rw [List.find?_range_eq_some]
    exact ⟨h, by simpa using hm, fun j hj => by simp [hb j hj]⟩
  rw [nxt, this]; rfl
theorem nxt_ok {xs : List Int} {S : Nat} (h : ∃ m, m < xs.length ∧ firstOk xs S m = true) : nxt xs S < xs.length ∧ firstOk xs S (nxt xs S) = true ∧ ∀ j, j < nxt xs S → firstOk xs S j = false := by
  obtain ⟨m, hm, h1⟩ := h
  cases hf : (List.range xs.length).find? (firstOk xs S) with
  | none =>
    rw [List.find?_eq_none] at hf
    exact absurd h1 (hf m (by simpa using hm))
  | some x =>
    have hx := List.find?_range_eq_some.1 hf
    have e : nxt xs S = x := by rw [nxt, hf]; rfl
    rw [e]
    exact ⟨by simpa using hx.2.1, hx.1, fun j hj => by simpa using hx.2.2 j hj⟩
/-- the first k elements of the first extension, and the set of them -/
def firsts (xs : List Int) : Nat → List Int
  | 0 => []
  | k+1 => firsts xs k ++ [((nxt xs (setTo (firsts xs k) k) : Nat) : Int)]
theorem firsts_len (xs : List Int) : ∀ k, (firsts xs k).length = k
  | 0 => rfl
  | k+1 => by simp [firsts, firsts_len xs k]
theorem setTo_app {es : List Int} {x : Int} : ∀ k, k ≤ es.length → setTo (es ++ [x]) k = setTo es k
  | 0, _ => rfl
  | k+1, h => by
    simp only [setTo, setTo_app (es := es) (x := x) k (by omega)]
    have : nth (es ++ [x]) k = nth es k := by simp [nth, List.getD_eq_getElem?_getD, List.getElem?_append_left (show k < es.length by omega)]
    rw [this]
/-- the set of the first k elements of the first extension -/
def fset (xs : List Int) (k : Nat) : Nat := setTo (firsts xs k) k
theorem fset_next (xs : List Int) (k : Nat) : fset xs (k+1) = fset xs k ||| 2 ^ nxt xs (fset xs k) := by
  have hl := firsts_len xs k
  simp only [fset, setTo, firsts]
  rw [setTo_app k (by omega)]
  have : nth (firsts xs k ++ [((nxt xs (setTo (firsts xs k) k) : Nat) : Int)]) k = ((nxt xs (setTo (firsts xs k) k) : Nat) : Int) := by
    simp [nth, List.getD_eq_getElem?_getD, List.getElem?_append_right (show (firsts xs k).length ≤ k by omega), hl]
  rw [this]; rfl
theorem fset_card {n : Int} {xs : List Int} (h : ordB n xs = true) : ∀ k, k ≤ xs.length → card (fset xs k) xs.length = k ∧ fset xs k < 2 ^ xs.length
  | 0, _ => by
    have := card_setTo_le (es := firsts xs 0) (m := xs.length) 0
    exact ⟨by simp only [fset]; omega, Nat.two_pow_pos _⟩
  | k+1, hk => by
    have ih := fset_card h k (by omega)
    have h1 := nxt_ok (first_ex h (S := fset xs k) (by omega))
    have h2 := (firstOk_iff.1 h1.2.1).1
    rw [fset_next]
    exact ⟨by rw [card_or, ih.1, if_pos ⟨h1.1, h2⟩], or_lt ih.2 (two_lt h1.1)⟩
def fstL (n : Int) (xs : List Int) : List Int := if ordB n xs then firsts xs xs.length else []
theorem fstL_len (n : Int) (xs : List Int) : (fstL n xs).length ≤ 1048576 := by
  unfold fstL
  split
  · rename_i h
    have hp := ord_rel h
    rw [firsts_len]
    have := hp.len; have := hp.n1; omega
  · simp

/-- the numbers below three -/
theorem orUpTo3_any (w : World) :
    Calls Tryz.prog 79 #[.int .i64 3] w fun e w' => ∃ (a : Option Addr) (cap : Nat), e = .returned (.slice a 3 cap) ∧ OwnI w' w.heap.size (.slice a 3 cap) [0, 1, 2] ∧ Below w.heap.size w w' := by
  go_enter Tryz.func79, Tryz.ntmps79
  go_wp2_with fail
  go_loopw [3, 4] (fun v i wr => ∃ (k : Nat) (a : Option Addr) (cap : Nat), k ≤ 3 ∧ i = .int .i64 k ∧ v = .slice a k cap ∧ OwnI wr w.heap.size (.slice a k cap) (fmap (fun j => (j : Int)) k) ∧ Below w.heap.size w wr) (fun _ i _ => 3 - (intOf i).toNat)
  case atStart => exact ⟨0, none, 0, Nat.zero_le _, rfl, rfl, OwnI.nil _ _, Below.refl _ _⟩
  case round =>
    obtain ⟨k, a, cap, hk, rfl, rfl, ho, hb⟩ := hrel
    have hl := fmap_len (fun j => (j : Int)) k
    have HU : Hid (fmap (fun j => (j : Int)) (k+1) = fmap (fun j => (j : Int)) k ++ [(k : Int)]) := fmap_succ _ _
    have HL := Lib.hid (fmap_len (fun j => (j : Int)) (k+1))
    by_cases hlt : k < 3
    · have k1 : (k : Int) < 3 := by omega
      have hs := hb.size
      generalize fmap (fun j => (j : Int)) k = xs at ho hl HU
      go_wp2_with (at_builtin; refine push_at (v := .slice a k cap) (ys := xs) (z := (k : Int)) rfl _ _ rfl rfl ho rfl (by omega) hs ?_; intro v7 w7 o7 hg7 hat7; revert hat7)
      intro hat7
      rw [← HU.out] at o7
      obtain ⟨av7, cv7, ev7⟩ := o7.form
      rw [HL.out] at ev7
      subst ev7
      have hb7 := hb.trans (below_of_grown hg7 (fun c e => (ho.lt c e).1) hs)
      clear hat7 hg7
      go_wp2_with fail
      go_roundw
      case rel => exact ⟨k + 1, av7, cv7, by omega, by go_num, rfl, o7, hb7⟩
      case measure => simp [intOf]; omega
    · obtain rfl : k = 3 := by omega
      go_wp2_with fail
      go_ret
      exact ⟨a, cap, rfl, ho, hb⟩

theorem l1In_any (n lo hi : Int) (w : World) :
    Calls Tryz.prog 70 #[.int .i64 n, .int .i64 lo, .int .i64 hi] w fun e w' => e = .returned (.bool (inB n lo hi)) ∧ w = w' := by
  go_enter Tryz.func70, Tryz.ntmps70
  go_wp2
  all_goals (go_ret; exact ⟨ret_bool (by simp [inB]; try omega), rfl⟩)
theorem l1In_is {n lo hi : Int} {b : Bool} (h : inB n lo hi = b) (w : World) (m : Nat) :
    Calls Tryz.prog 70 #[.int .i64 n, .int .i64 lo, .int .i64 hi] (w.drewN m) fun e w' => e = .returned (.bool b) ∧ ∃ k, w' = w.drewN k :=
  Calls.quiet_of_same ((l1In_any n lo hi (w.drewN m)).mono (fun e w' hh => ⟨by rw [← h]; exact hh.1, hh.2.symm⟩))

theorem asGood_any (a : Option Addr) (xs : List Int) (cap : Nat) (w : World) (hx : Rd w a xs) (hcap : xs.length ≤ cap) :
    Calls Tryz.prog 36 #[.slice a xs.length cap] w fun e w' => e = .returned (.bool (ascB xs)) ∧ Below w.heap.size w w' := by
  have hlen := hx.len
  by_cases hl : xs.length ≤ 12
  · go_enter Tryz.func36, Tryz.ntmps36
    go_wp2_with fail
    go_loopw [10] (fun i wr => ∃ k : Nat, k ≤ xs.length ∧ i = .int .i64 k ∧ (∀ j, j < k → ascOk xs j = true) ∧ Below w.heap.size w wr) (fun i _ => xs.length - (intOf i).toNat)
    case atStart => exact ⟨0, Nat.zero_le _, rfl, fun j hj => by omega, Below.refl _ _⟩
    case round =>
      obtain ⟨k, hk, rfl, hall, hb⟩ := hrel
      have HA := Lib.hid hall
      clear hall
      by_cases hlt : k < xs.length
      · have hxr := hx.below hb
        obtain ⟨b, off, rfl, hbl, hc⟩ := hxr.cell k hlt
        have k1 : (k : Int) ≤ (cap : Int) := by omega
        have k0 : (0 : Int) ≤ (k : Int) := by omega
        cases hin : ascOk xs k
        · have HO : Hid (ascB xs = false) := ascB_no hlt hin
          have hin' : inB (nth xs k) 0 (bndTo xs k) = false := hin
          have HI := Lib.hid hin'
          clear hin hin'
          go_wp2_with fail
          refine (asBound_any _ xs k _ _ hxr hk).mono ?_
          rintro e w1 ⟨rfl, hb1⟩
          go_wp2_with fail
          refine (l1In_any _ _ _ _).mono ?_
          rintro e w' ⟨rfl, rfl⟩
          rw [HI.out]
          go_wp2_with fail
          go_ret
          exact ⟨ret_bool HO.out.symm, hb.trans (hb1.mono hb.size)⟩
        · have hin' : inB (nth xs k) 0 (bndTo xs k) = true := hin
          have HI := Lib.hid hin'
          have HM := Lib.hid hin
          clear hin hin'
          go_wp2_with fail
          refine (asBound_any _ xs k _ _ hxr hk).mono ?_
          rintro e w1 ⟨rfl, hb1⟩
          go_wp2_with fail
          refine (l1In_any _ _ _ _).mono ?_
          rintro e w' ⟨rfl, rfl⟩
          rw [HI.out]
          go_wp2_with fail
          go_roundw
          case rel =>
            refine ⟨k + 1, by omega, by go_num, fun j hj => ?_, hb.trans (hb1.mono hb.size)⟩
            by_cases e : j = k
            · rw [e]; exact HM.out
            · exact HA.out j (by omega)
          case measure => simp [intOf]; omega
      · obtain rfl : k = xs.length := by omega
        have HO : Hid (ascB xs = true) := ascB_iff.2 ⟨hl, HA.out⟩
        go_wp2_with fail
        go_ret
        exact ⟨ret_bool HO.out.symm, hb⟩
  · have HO := Lib.hid (ascB_long hl)
    go_enter Tryz.func36, Tryz.ntmps36
    go_wp2_with fail
    go_ret
    exact ⟨ret_bool HO.out.symm, Below.refl _ _⟩

/-- one row more at the end -/
theorem RowsP.snoc {w w' : World} {B C : Nat} {v v' u : Value} {vl : List Value} {xss : List (List Int)} {r : List Int} (h : RowsP w B v vl xss) (hr : OwnI w C u r) (hBC : B ≤ C) (hvC : ∀ c, v.ownBlock = some c → c < C) (hrC : ∀ k, k < xss.length → ∀ c, (valAt vl k).ownBlock = some c → c < C)
    (ho : w'.ownsRow B 24 1 v' (xss.length + 1) (vl ++ [u])) (hg : w.grownBy w' v.ownBlock) (hv' : v'.ownBlock = v.ownBlock ∨ ∃ m, w.heap.size ≤ m ∧ v'.ownBlock = some m) : RowsP w' B v' (vl ++ [u]) (xss ++ [r]) := by
  have hl := h.o.vlen
  have e1 : ∀ k, k < xss.length → valAt (vl ++ [u]) k = valAt vl k := fun k hk => by rw [valAt, valAt, List.getD_eq_getElem?_getD, List.getD_eq_getElem?_getD, List.getElem?_append_left (by omega)]
  have e2 : valAt (vl ++ [u]) xss.length = u := by rw [← hl]; simp [valAt]
  have r1 : ∀ k, k < xss.length → rowL (xss ++ [r]) k = rowL xss k := fun k hk => by rw [rowL, rowL, List.getD_eq_getElem?_getD, List.getD_eq_getElem?_getD, List.getElem?_append_left hk]
  have r2 : rowL (xss ++ [r]) xss.length = r := by simp [rowL]
  have hur := hr.lt
  refine ⟨⟨by rw [List.length_append, List.length_singleton]; exact ho, fun k hk => ?_, fun k hk c hc hc2 => ?_⟩, fun j k hjk hk c hc => ?_⟩
  · rw [List.length_append, List.length_singleton] at hk
    by_cases e : k = xss.length
    · subst e
      rw [e2, r2]
      exact (hr.mono hBC).kept hg (own_ne (fun c h1 h3 => by have := hvC c h3; have := (hur c h1).1; omega))
    · rw [e1 k (by omega), r1 k (by omega)]
      exact (h.o.row k (by omega)).kept hg (own_ne (fun c h1 h3 => h.o.apart k (by omega) c h1 h3))
  · rw [List.length_append, List.length_singleton] at hk
    by_cases e : k = xss.length
    · subst e
      rw [e2] at hc
      have h1 := hur c hc
      rcases hv' with h3 | ⟨m, hm, h3⟩
      · rw [h3] at hc2; have := hvC c hc2; omega
      · rw [h3] at hc2; simp only [Option.some.injEq] at hc2; omega
    · rw [e1 k (by omega)] at hc
      have h1 := ((h.o.row k (by omega)).lt c hc).2
      rcases hv' with h3 | ⟨m, hm, h3⟩
      · rw [h3] at hc2; exact h.o.apart k (by omega) c hc hc2
      · rw [h3] at hc2; simp only [Option.some.injEq] at hc2; omega
  · rw [List.length_append, List.length_singleton] at hk
    rw [e1 j (by omega)] at hc
    by_cases e : k = xss.length
    · subst e
      rw [e2]
      intro h3
      have := hrC j (by omega) c hc
      have := (hur c h3).1
      omega
    · rw [e1 k (by omega)]
      exact h.pair j k hjk (by omega) c hc
/-- an append of one row at a step of a region that draws its order; the new row's value lies somewhere -/
theorem step_push_row {ops : Array Oper} {o : Oper} {a : Act} {K : Act → World → Prop} {Q : Exit → Act → World → Prop} {E : Prop} (hgd : o.guard = none) (s x : Operand)
    (ho : o.op = .call { callee := .builtin .append, args := #[s, x], argTypes := #[43, 43] }) {W : World} {B C g n m cp : Nat} {ar : Option Addr} {v : Value} {vl : List Value} {xss : List (List Int)} {r : List Int}
    (hs : a.eval s = v) (hx : a.eval x = .slice (some ⟨g, 0, none⟩) 1 1) (hro : RowsP W B v vl xss) (hn : xss.length = n) (hrow : OwnI W C (.slice ar m cp) r) (hz : W.cell? ⟨g, 0, none⟩ = some (.slice ar m cp)) (h63 : n ≤ 1048576) (hBC : B ≤ C) (hC : C ≤ W.heap.size)
    (hvC : ∀ c, v.ownBlock = some c → c < C) (hrC : ∀ k, k < xss.length → ∀ c, (valAt vl k).ownBlock = some c → c < C)
    (h : ∀ g' cap w', RowsP w' B (.slice (some ⟨g', 0, none⟩) (n + 1) cap) (vl ++ [.slice ar m cp]) (xss ++ [r]) → W.grownBy w' v.ownBlock → K (a.put o.dst (.slice (some ⟨g', 0, none⟩) (n + 1) cap)) w') :
    if Region.wanted o (yielded ops a.tmps) = true then Oper.wp Tryz.prog o a W K Q else E := by
  subst hn
  obtain ⟨j0, hj0, hy0, hy1, hy2⟩ := info_parts infoSlice
  refine step_append_lies W hgd s x 43 ho B 24 j0 (.slice none 0 0) 1 24 Tryz.underlying43 hj0 hy0 hy1 hy2 rfl (by decide) v xss.length vl hs hro.o.own ⟨g, 0, none⟩ 1 1 [.slice ar m cp] hx rfl ?_ (by intro u hu; simp at hu; subst hu; rfl) (by omega) (by unfold maxLen; omega) (by omega) (by omega) W.heap.size rfl ?_
  · intro j u hj
    obtain ⟨hlt, e⟩ := List.getElem?_eq_some_iff.1 hj
    have h0 : j = 0 := by simpa using hlt
    subst h0
    simp at e
    subst e
    rw [Addr.add_lit]; simpa using hz
  · intro g' cap w' ho2 hg hat _
    refine h g' cap w' (hro.snoc hrow hBC hvC hrC ho2 hg ?_) hg
    rcases hat with h1 | h1
    · exact .inl (by rw [h1]; rfl)
    · exact .inr ⟨g', by omega, rfl⟩

theorem l1Own_any (a : Option Addr) (xs : List Int) (cap : Nat) (w : World) (hx : Rd w a xs) (hn : xs.length ≤ 1048576) :
    Calls Tryz.prog 147 #[.slice a xs.length cap] w fun e w' => ∃ a' cap', e = .returned (.slice a' xs.length cap') ∧ OwnI w' w.heap.size (.slice a' xs.length cap') xs ∧ Below w.heap.size w w' := by
  obtain ⟨i0, hi, hz0, hz1, hz2⟩ := info_parts infoInt
  have hown : (w.alloc (.cells #[] 3)).ownsRow w.heap.size 3 1 (.slice (some ⟨w.heap.size, 0, none⟩) 0 0) 0 [] := World.ownsRow_lit w #[] 0 (Nat.le_refl _) (by simp [maxLen]) (by simp)
  cases a with
  | none =>
    have h0 : xs = [] := by
      rcases xs with _ | ⟨x, t⟩
      · rfl
      · obtain ⟨b, off, e, _⟩ := hx.cell 0 (by simp)
        cases e
    subst h0
    go_enter Tryz.func147, Tryz.ntmps147
    go_wp2_with (at_builtin; refine wpList_append_none rfl _ _ 24 rfl w.heap.size 3 i0 1 Tryz.underlying24 hi _ 0 _ [] rfl hown rfl ?_)
    go_wp2_with fail
    go_ret
    exact ⟨_, _, rfl, hown, (by repeat (first | exact Below.refl _ _ | assumption | refine Below.alloc ?_ (by first | exact Nat.le_refl _ | (simp only [World.size_alloc, World.size_setCell, World.size_drew]; omega) | omega) _ | refine Below.setCell ?_ (by first | exact Nat.le_refl _ | (simp only [World.size_alloc, World.size_setCell, World.size_drew]; omega) | omega) _ | refine Below.drew ?_))⟩
  | some ad =>
    have hx1 := hx.alloc (.cells #[] 3)
    go_enter Tryz.func147, Tryz.ntmps147
    go_wp2_with (at_builtin; refine wpList_append_own _ rfl _ _ 24 rfl w.heap.size 3 i0 (.int .i64 0) 1 8 Tryz.underlying24 hi hz0 hz1 hz2 rfl (by decide) _ 0 [] rfl hown ad xs.length cap (xs.map (Value.int .i64)) rfl (by simp) ?c1 ?c2 ?c3 ?c4 ?c5 ?_)
    case c1 => exact rd_news hx1
    case c2 => exact ints_one xs
    case c3 => unfold maxLen; omega
    case c4 => omega
    case c5 => simp
    · intro v' w1 hown' hgrow _
      try simp only [Nat.zero_add, List.nil_append] at hown'
      have hb : Below w.heap.size w w1 := ((Below.refl _ _).alloc (Nat.le_refl _) _).grown hgrow (by simp) (fun b e => by simp [Value.ownBlock] at e; omega)
      obtain ⟨a', cap', rfl⟩ := OwnI.form (xs := xs) hown'
      have HO := Lib.hid hown'
      clear hown' hgrow hown
      go_wp2_with fail
      go_ret
      exact ⟨a', cap', rfl, HO.out, hb⟩

set_option maxRecDepth 100000 in
set_option maxHeartbeats 1000000 in
theorem maOwn_any (a : Option Addr) (xss : List (List Int)) (cap n m : Nat) (f : Nat → Nat → Int) (hf : xss = sqM f n m) (w : World) (hx : RdS w a xss) (hn : n ≤ 13) (hm : m ≤ 13) :
    Calls Tryz.prog 133 #[.agg #[.slice a n cap]] w fun e w' => ∃ a0 c0 vl, e = .returned (.agg #[.slice a0 n c0]) ∧ RowsP w' w.heap.size (.slice a0 n c0) vl (sqM f n m) ∧ Below w.heap.size w w' := by
  subst hf
  have hV0 := Var1.new (w.alloc (.cells #[.slice a n cap] 45)) (.slice none 0 0) 45
  have hO := Var1.new ((w.alloc (.cells #[.slice a n cap] 45)).alloc (.cells #[.slice none 0 0] 45)) (.slice none 0 0) 45
  have hb0 : Below w.heap.size w (((w.alloc (.cells #[.slice a n cap] 45)).alloc (.cells #[.slice none 0 0] 45)).alloc (.cells #[.slice none 0 0] 45)) := (by repeat (first | exact Below.refl _ _ | assumption | refine Below.alloc ?_ (by first | exact Nat.le_refl _ | (simp only [World.size_alloc, World.size_setCell, World.size_drew]; omega) | omega) _ | refine Below.setCell ?_ (by first | exact Nat.le_refl _ | (simp only [World.size_alloc, World.size_setCell, World.size_drew]; omega) | omega) _ | refine Below.drew ?_))
  have hV := hV0.alloc (.cells #[.slice none 0 0] 45)
  clear hV0
  simp only [World.size_alloc] at hV hO
  have HX := Lib.hid hx
  clear hx
  go_enter Tryz.func133, Tryz.ntmps133
  go_wp2_with fail
  go_loopw [10] (fun i wr => ∃ (k : Nat) (v : Value) (vl : List Value), k ≤ n ∧ i = .int .i64 k ∧ Var1 wr (w.heap.size + 2) v ∧ RowsP wr (w.heap.size + 3) v vl (sqM f k m) ∧ Var1 wr (w.heap.size + 1) (.slice none 0 0) ∧ Below w.heap.size w wr) (fun i _ => n - (intOf i).toNat)
  case atStart => exact ⟨0, .slice none 0 0, [], Nat.zero_le _, rfl, hO, RowsP.nil _ _, hV, hb0⟩
  case round =>
    clear hV hO hb0
    obtain ⟨k, v, vl, hk, rfl, hO, hro, hV, hb⟩ := hrel
    have hbs := hb.size
    have ⟨⟨zO, cO⟩, fO⟩ := hO
    obtain ⟨av, cv, ev⟩ := hro.o.form
    rw [sqM_len] at ev
    subst ev
    have HRO := Lib.hid hro
    have HO := Lib.hid hO
    have HV := Lib.hid hV
    by_cases hlt : k < n
    · obtain ⟨b0, off0, a', cap', rfl, hbl, hc, hr⟩ := (HX.out.below hb).row k (by rw [sqM_len]; exact hlt)
      rw [sqM_row hlt, fmap_len] at hc
      rw [sqM_row hlt] at hr
      have k1 : (k : Int) < (n : Int) := by omega
      have HN : Hid (sqM f (k+1) m = sqM f k m ++ [fmap (f k) m]) := sqM_succ _ _ _
      have HC : Hid (∀ W, Below wr.heap.size wr W → Calls Tryz.prog 147 #[.slice a' m cap'] W fun e w' => ∃ a2 c2, e = .returned (.slice a2 m c2) ∧ OwnI w' W.heap.size (.slice a2 m c2) (fmap (f k) m) ∧ Below W.heap.size W w') := fun W h => by
        have h1 := l1Own_any a' (fmap (f k) m) cap' W (hr.below h) (by rw [fmap_len]; omega)
        rw [fmap_len] at h1
        exact h1
      have hsz : w.heap.size + 3 ≤ wr.heap.size := by omega
      clear hro hO hV hr
      go_wp2_with fail
      go_region_law (first | (have _g := HR2; refine step_push_row (by rfl) _ _ (by rfl) (by rfl) (by rfl) (HR2.out.below ((Below.refl _ _).alloc (Nat.le_refl _) _) (Nat.le_refl _)) (sqM_len _ _ _) (ho2.alloc _) (by simp) (by omega) (by omega) (by simp; omega) (HRO.out.blk.1) (HRO.out.blk.2) ?_; intro g5 c5 w5 ho5 hg5; have hg6 := grown_alloc_set hg5; have hO5 := HO2.out.kept hg6 (ne_own (fun c e => by have := (HR2.out.o.lt c e).1; omega)); have ⟨⟨zO5, cO5⟩, fO5⟩ := hO5) | (go_simp; go_at_call 147; refine (HC.out _ (Joins.below_draws _ _ _)).mono ?_; rintro e w2 ⟨a2, c2, rfl, ho2', hb2⟩; have ht2 := (Joins.below_draws _ _ _).trans hb2; have hs2 := ht2.size; have ho2 := ho2'.mono (B' := wr.heap.size) (by simp); have HR2 := Lib.hid (HRO.out.below ht2 (Nat.le_refl _)); have HO2 := Lib.hid (HO.out.below ht2); have ⟨⟨zO2, cO2⟩, fO2⟩ := HO2.out; clear ho2' hb2))
      all_goals
        have hlo := HR2.out.o.lt
        have hV5 := (HV.out.below ht2).kept hg6 (ne_own (fun c e => by have := (hlo c e).1; omega))
        have b5 : Below w.heap.size w w5 := (hb.trans (ht2.mono hbs)).trans (below_of_grown hg6 (fun c e => by have := (hlo c e).1; omega) (by omega))
        have ho6 := ho5.setBelow (p := ⟨w.heap.size + 2, 0, none⟩) (show w.heap.size + 2 < w.heap.size + 3 by omega) (.slice (some ⟨g5, 0, none⟩) (k + 1) c5)
        have hO6 := hO5.set (.slice (some ⟨g5, 0, none⟩) (k + 1) c5)
        have hV6 := hV5.other (p := ⟨w.heap.size + 2, 0, none⟩) (.slice (some ⟨g5, 0, none⟩) (k + 1) c5) (show w.heap.size + 1 ≠ w.heap.size + 2 by omega)
        have b6 := b5.setCell (p := ⟨w.heap.size + 2, 0, none⟩) (show w.heap.size ≤ w.heap.size + 2 by omega) (.slice (some ⟨g5, 0, none⟩) (k + 1) c5)
        have H6 := Lib.hid (And.intro ho6 (And.intro hO6 (And.intro hV6 b6)))
        clear ho5 hg5 hg6 hlo hO5 hV5 ho6 hO6 hV6 HR2 ho2 HO2
        go_wp2_with fail
        go_roundw
        case rel => exact ⟨k + 1, _, _, by omega, by go_num, H6.out.2.1, by rw [HN.out]; exact H6.out.1, H6.out.2.2.1, H6.out.2.2.2⟩
        case measure => simp [intOf]; omega
    · obtain rfl : k = n := by omega
      have ⟨⟨zV, cV⟩, fV⟩ := hV
      clear hro hO hV
      go_wp2_with fail
      have hV2 := HV.out.set (.slice av k cv)
      have b2 := hb.setCell (p := ⟨w.heap.size + 1, 0, none⟩) (by simp) (.slice av k cv)
      refine bodyPost_ret (v := .agg #[.slice av k cv]) (by have ⟨⟨_, q1⟩, _⟩ := hV2; simp [results, Tryz.results133, go_sem, q1]) rfl ?_
      exact ⟨av, cv, vl, rfl, (HRO.out.setBelow (show w.heap.size + 1 < w.heap.size + 3 by omega) _).mono (by omega), b2⟩

set_option maxRecDepth 100000 in
theorem maTop_any (a : Option Addr) (xss : List (List Int)) (cap : Nat) (w : World) (hx : RdS w a xss) (hm : mxB xss = true) :
    Calls Tryz.prog 132 #[.agg #[.slice a xss.length cap]] w fun e w' => e = .returned (.int .i64 (topI xss)) ∧ Below w.heap.size w w' := by
  have HM := Lib.hid hm
  have h12 := mxB_small hm
  have HX := Lib.hid hx
  clear hm
  go_enter Tryz.func132, Tryz.ntmps132
  go_wp2_with fail
  go_loop [8] (fun i => ∃ k : Nat, k ≤ xss.length ∧ i = .int .i64 k ∧ Hid (∀ j, j < k → atM xss j (xss.length - 1) = 0)) (fun i => xss.length - (intOf i).toNat)
  case atStart => exact ⟨0, Nat.zero_le _, rfl, fun j hj => by omega⟩
  case round =>
    obtain ⟨k, hk, rfl, HZ⟩ := hrel
    by_cases hlt : k < xss.length
    · obtain ⟨b, off, a', cap', rfl, hbl, hc, hr⟩ := (HX.out.below (show Below w.heap.size w (w.alloc (.cells #[.slice a xss.length cap] 45)) from (by repeat (first | exact Below.refl _ _ | assumption | refine Below.alloc ?_ (by first | exact Nat.le_refl _ | (simp only [World.size_alloc, World.size_setCell, World.size_drew]; omega) | omega) _ | refine Below.setCell ?_ (by first | exact Nat.le_refl _ | (simp only [World.size_alloc, World.size_setCell, World.size_drew]; omega) | omega) _ | refine Below.drew ?_)))).row k hlt
      have hrl := mxB_len HM.out hlt
      obtain ⟨b2, off2, rfl, hbl2, hc2⟩ := hr.cell (xss.length - 1) (by omega)
      rw [hrl] at hc
      have k1 : (k : Int) < (xss.length : Int) := by omega
      have hcast : ((xss.length : Int) - 1) = ((xss.length - 1 : Nat) : Int) := by omega
      have hnn := (mxB_num HM.out (j := xss.length - 1) hlt (by omega)).1
      have HA : Hid (atM xss k (xss.length - 1) = nth (rowL xss k) (xss.length - 1)) := rfl
      rw [HA.out] at hnn
      by_cases hp : 0 < nth (rowL xss k) (xss.length - 1)
      · have H : Hid (topI xss = (k : Int)) := by
          rw [Hid, topI, if_neg (by omega), topN, firstNZ_at HZ.out (by rw [HA.out]; omega) hlt]
        clear hrl hr
        go_wp2_with fail
        go_ret
        exact ⟨ret_int H.out.symm, (by repeat (first | exact Below.refl _ _ | assumption | refine Below.alloc ?_ (by first | exact Nat.le_refl _ | (simp only [World.size_alloc, World.size_setCell, World.size_drew]; omega) | omega) _ | refine Below.setCell ?_ (by first | exact Nat.le_refl _ | (simp only [World.size_alloc, World.size_setCell, World.size_drew]; omega) | omega) _ | refine Below.drew ?_))⟩
      · have HN : Hid (atM xss k (xss.length - 1) = 0) := by rw [Hid, HA.out]; omega
        clear hrl hr
        go_wp2_with fail
        go_round
        case rel =>
          refine ⟨k + 1, by omega, by go_num, fun j hj => ?_⟩
          by_cases e : j = k
          · rw [e]; exact HN.out
          · exact HZ.out j (by omega)
        case measure => simp [intOf]; omega
    · obtain rfl : k = xss.length := by omega
      have H : Hid (topI xss = -1) := by
        by_cases e : xss.length = 0
        · rw [Hid, topI, if_pos e]
        · exfalso
          have h1 := topN_lt HM.out (by omega)
          rw [topN, firstNZ_all HZ.out] at h1
          omega
      clear hx
      go_wp2_with fail
      go_ret
      exact ⟨ret_int H.out.symm, (by repeat (first | exact Below.refl _ _ | assumption | refine Below.alloc ?_ (by first | exact Nat.le_refl _ | (simp only [World.size_alloc, World.size_setCell, World.size_drew]; omega) | omega) _ | refine Below.setCell ?_ (by first | exact Nat.le_refl _ | (simp only [World.size_alloc, World.size_setCell, World.size_drew]; omega) | omega) _ | refine Below.drew ?_))⟩

theorem lit_own (w : World) (x : Int) (B : Nat) (hB : B ≤ w.heap.size) : (w.alloc (.cells #[.int .i64 x] 3)).ownsRow B 3 1 (.slice (some ⟨w.heap.size, 0, none⟩) 1 1) 1 [.int .i64 x] := by
  have h := (OwnI.new w [x] (by simp)).mono hB
  exact h

/-- an append of a whole slice of integers, a nil one too, at a step of a region that draws its order -/
theorem step_append_src {P : Program} {w : World} {ops : Array Oper} {o : Oper} {a : Act} {K : Act → World → Prop} {Q : Exit → Act → World → Prop} {E : Prop} (hgd : o.guard = none) (s x : Operand) (t : TypeId)
    (ho : o.op = .call { callee := .builtin .append, args := #[s, x], argTypes := #[t, t] })
    (base : Nat) (e : TypeId) (i : TypeInfo) (z : Value) (bytes : Nat) (ht : P.underlying t = some (.slice e)) (hi : P.info? e = some i) (hz : i.zero = some z)
    (hsize : i.size = 1) (hby : i.bytes = bytes) (hzs : z.cells.size = 1)
    (v : Value) (n : Nat) (xs : List Value) (hs : a.eval s = v) (hown : w.ownsRow base e 1 v n xs)
    (ad : Option Addr) (c : Nat) (R : List Int) (hx : a.eval x = .slice ad R.length c) (hrd : Rd w ad R)
    (h63 : n + R.length ≤ maxLen) (hbytes : (n + R.length) * bytes ≤ 140737488355328) (hbase : base ≤ w.heap.size)
    (h : ∀ v' w', w'.ownsRow base e 1 v' (n + R.length) (xs ++ R.map (Value.int .i64)) → w.grownBy w' v.ownBlock → K (a.put o.dst v') w') :
    if Region.wanted o (yielded ops a.tmps) = true then Oper.wp P o a w K Q else E := by
  have hw : Region.wanted o (yielded ops a.tmps) = true := by simp [Region.wanted, hgd]
  rw [if_pos hw]
  cases ad with
  | some ad => exact wp_append_own w s x t ho base e i z 1 bytes ht hi hz hsize hby hzs (by omega) v n xs hs hown ad R.length c (R.map (Value.int .i64)) hx (by rw [List.length_map, Nat.mul_one]) (rd_news hrd) (ints_one R) h63 hbytes hbase (fun v' w' h2 h3 _ => h v' w' h2 h3)
  | none =>
    have hR : R = [] := by
      rcases R with _ | ⟨y, ys⟩
      · rfl
      · obtain ⟨b, off, e, _⟩ := hrd.cell 0 (by simp)
        cases e
    subst hR
    have hrun : (Builtin.append_ #[t, t] o.type #[v, .slice none 0 c]).run P w = .ok v w := by
      rcases hown.2 with ⟨rfl, rfl⟩ | ⟨g, cap, cur, rfl, _, _, hnc, _⟩
      · simp [Builtin.append_, run_underlying ht, sizeOf, typeInfo, hi, Builtin.lenOf, Builtin.firstCells]
      · simp [Builtin.append_, run_underlying ht, sizeOf, typeInfo, hi, Builtin.lenOf, Builtin.firstCells, hnc, storeCells]
    have h2 := h v w (by simpa using hown) (World.grownBy.refl _ _)
    have hx' : a.eval x = .slice none 0 c := hx
    unfold Oper.wp
    simp [execOp, ho, resolve, invoke, builtin, hs, hx', hrun, Result.andThen]
    exact h2

theorem l1Own_take (a : Option Addr) (xs : List Int) (k cap : Nat) (w : World) (hx : Rd w a xs) (hk : k ≤ xs.length) (hn : k ≤ 1048576) :
    Calls Tryz.prog 147 #[.slice a k cap] w fun e w' => ∃ a' cap', e = .returned (.slice a' k cap') ∧ OwnI w' w.heap.size (.slice a' k cap') (xs.take k) ∧ Below w.heap.size w w' := by
  have hl : (xs.take k).length = k := by simp; omega
  have h := l1Own_any a (xs.take k) cap w (hx.take k) (by rw [hl]; exact hn)
  rw [hl] at h
  exact h

theorem Rd.drop {w : World} {ad : Addr} {xs : List Int} (h : Rd w (some ad) xs) (k : Nat) : Rd w (some (ad.add k)) (xs.drop k) :=
  ⟨Nat.le_trans (by rw [List.length_drop]; omega) h.len, fun j hj => by
    have hj' : k + j < xs.length := by rw [List.length_drop] at hj; omega
    obtain ⟨b, off, e, hl, hc⟩ := h.cell (k + j) hj'
    simp only [Option.some.injEq] at e
    subst e
    refine ⟨b, off + k, by rw [Addr.add_lit], hl, ?_⟩
    rw [Nat.add_assoc, hc]
    simp [nth, List.getD_eq_getElem?_getD, List.getElem?_drop]⟩

set_option maxRecDepth 100000 in
theorem maWide_any (a : Option Addr) (xs : List Int) (cap x : Nat) (w : World) (hr : Rd w a xs) (hcap : xs.length ≤ cap) (hp : 0 < xs.length) (hx : x ≤ xs.length) (hn : xs.length ≤ 12) :
    Calls Tryz.prog 134 #[.slice a xs.length cap, .int .i64 (x : Int)] w fun e w' => ∃ a' c', e = .returned (.slice a' (xs.length + 1) c') ∧ OwnI w' w.heap.size (.slice a' (xs.length + 1) c') (xs.take x ++ [0] ++ xs.drop x) ∧ Below w.heap.size w w' := by
  obtain ⟨i0, hi, hz0, hz1, hz2⟩ := info_parts infoInt
  have HX := Lib.hid hr
  obtain ⟨b, off, rfl, hbl, _⟩ := hr.cell 0 (by omega)
  have hxc : x ≤ cap := by omega
  have HL : Hid ((xs.take x ++ [0] ++ xs.drop x).length = xs.length + 1) := by rw [Hid, List.length_append, List.length_append, List.length_take, List.length_drop, List.length_singleton]; omega
  have HDR : Hid (∀ W A, Below w.heap.size w W → (if cap = x then some (⟨b, off, none⟩ : Addr) else some ⟨b, off + x, none⟩) = some A → Rd W (some A) (xs.drop x)) := fun W A hb hA => by
    have h1 := (HX.out.below hb).drop x
    by_cases h9 : cap = x
    · rw [if_pos h9] at hA
      have e : xs.drop x = [] := List.drop_eq_nil_of_le (by omega)
      rw [e]
      exact ⟨by simp, fun k hk => by simp at hk⟩
    · rw [if_neg h9] at hA
      simp only [Option.some.injEq] at hA
      subst hA
      rw [Addr.add_lit] at h1
      exact h1
  obtain ⟨A, hA⟩ : ∃ A : Addr, (if cap = x then some (⟨b, off, none⟩ : Addr) else some ⟨b, off + x, none⟩) = some A := by
    by_cases h9 : cap = x
    · exact ⟨_, if_pos h9⟩
    · exact ⟨_, if_neg h9⟩
  have HA := Lib.hid hA
  have htl : (xs.take x).length = x := by rw [List.length_take]; omega
  have HTL := Lib.hid htl
  have htl1 : (xs.take x ++ [0]).length = x + 1 := by rw [List.length_append, htl]; rfl
  have HTL1 := Lib.hid htl1
  have hwr : IntKind.i64.wrap (x : Int) = (x : Int) := by rw [i64_wrap, IntWalk.wrap64_in _ ⟨by omega, by omega⟩]
  clear htl htl1
  go_enter Tryz.func134, Tryz.ntmps134
  go_wp2_with fail
  go_region_law (first
    | (have _g := ho5; refine step_append_src (by rfl) _ _ _ (by rfl) w.heap.size 3 i0 (.int .i64 0) 8 Tryz.underlying24 hi hz0 hz1 hz2 rfl (.slice (some ⟨g5, 0, none⟩) (x + 1) c5) (x + 1) ((xs.take x ++ [0]).map (Value.int .i64)) (by rfl) (by first | exact ho5r | exact ownsRow_bel ho5r (Below.refl _ _).drew (Nat.le_refl _)) (some A) (cap - x) (xs.drop x) (by simp [Act.eval, Act.put]) (HDR.out _ A (by first | exact b5 | exact b5.drew) HA.out) (by rw [List.length_drop]; unfold maxLen; omega) (by rw [List.length_drop]; omega) (by have := b5.size; omega) ?_; intro v6 w6 ho6 hg6)
    | (have _g := NW; refine step_push (by rfl) _ _ (by rfl) (by rfl) (by rfl) (by first | exact ho3 | exact ho3.below (Joins.below_draws _ _ _) (Nat.le_refl _)) (by exact HTL.out) (by exact NW) (by omega) (by exact ht3.size) ?_; intro g5 c5 w5 ho5 hg5 hat5; have b5 : Below w.heap.size w w5 := ht3.trans (below_of_grown hg5 (fun c e => (ho3.lt c e).1) ht3.size); have ho5r : w5.ownsRow w.heap.size 3 1 (.slice (some ⟨g5, 0, none⟩) (x + 1) c5) (x + 1) ((xs.take x ++ [0]).map (Value.int .i64)) := (by have h := ho5; unfold OwnI at h; rw [HTL1.out] at h; exact h))
    | (have _g := ho3; refine step_push (by rfl) _ _ (by rfl) (by rfl) (by rfl) (by exact ho3.alloc _) (by exact HTL.out) (by simp; rfl) (by omega) (by have := ht3.size; simp; omega) ?_; intro g5 c5 w5 ho5 hg5 hat5; have b5 : Below w.heap.size w w5 := ht3.trans (below_of_grown (grown_alloc_set hg5) (fun c e => (ho3.lt c e).1) ht3.size); have ho5r : w5.ownsRow w.heap.size 3 1 (.slice (some ⟨g5, 0, none⟩) (x + 1) c5) (x + 1) ((xs.take x ++ [0]).map (Value.int .i64)) := (by have h := ho5; unfold OwnI at h; rw [HTL1.out] at h; exact h))
    | (go_simp; go_at_call 147; refine (l1Own_take _ xs x _ _ (by first | exact HX.out.below (Joins.below_draws _ _ _) | exact (HX.out.below (Joins.below_draws _ _ _)).alloc _) (by omega) (by omega)).mono ?_; rintro e w3 ⟨a3, c3, rfl, ho3', hb3⟩; have ht3 : Below w.heap.size w w3 := (by first | exact below_drew hb3 | exact below_after hb3); have ho3 := ho3'.mono (B' := w.heap.size) (by simp); (try have NW := news_after hb3); clear ho3' hb3))
  all_goals
    have hU := World.ownsRow.lt ho5r
    have b6 : Below w.heap.size w w6 := b5.trans (below_of_grown hg6 (fun c e => (hU c e).1) b5.size)
    have o6 : OwnI w6 w.heap.size v6 (xs.take x ++ [0] ++ xs.drop x) := by
      unfold OwnI
      rw [List.map_append, List.length_append, HTL1.out]
      exact ho6
    obtain ⟨a6, c6, e6⟩ := o6.form
    rw [HL.out] at e6
    subst e6
    clear ho6 hg6 hU ho5 ho5r
    go_wp2_with fail
    go_ret
    exact ⟨a6, c6, rfl, o6, b6⟩

set_option maxRecDepth 100000 in
set_option maxHeartbeats 2000000 in
theorem maGrow_any (a : Option Addr) (xss : List (List Int)) (cap x : Nat) (w : World) (hx : RdC w a xss) (hm : mxB xss = true) (hxl : x ≤ xss.length) :
    Calls Tryz.prog 106 #[.agg #[.slice a xss.length cap], .int .i64 (x : Int)] w fun e w' => ∃ a0 c0 vl, e = .returned (.agg #[.slice a0 (grL xss x).length c0]) ∧ RowsP w' w.heap.size (.slice a0 (grL xss x).length c0) vl (grL xss x) ∧ Below w.heap.size w w' := by
  obtain ⟨i0, hi, hz0, hz1, hz2⟩ := info_parts infoInt
  have hlen := hx.rd.len
  have hV := Var1.new (w.alloc (.cells #[.slice a xss.length cap] 45)) (.slice none 0 0) 45
  have hb0 : Below w.heap.size w ((w.alloc (.cells #[.slice a xss.length cap] 45)).alloc (.cells #[.slice none 0 0] 45)) := (by repeat (first | exact Below.refl _ _ | assumption | refine Below.alloc ?_ (by first | exact Nat.le_refl _ | (simp only [World.size_alloc, World.size_setCell, World.size_drew]; omega) | omega) _ | refine Below.setCell ?_ (by first | exact Nat.le_refl _ | (simp only [World.size_alloc, World.size_setCell, World.size_drew]; omega) | omega) _ | refine Below.drew ?_))
  have hA : Box1 ((w.alloc (.cells #[.slice a xss.length cap] 45)).alloc (.cells #[.slice none 0 0] 45)) w.heap.size (.slice a xss.length cap) := (Box1.new w _ _).below ((Below.refl _ _).alloc (Nat.le_refl _) _)
  rw [World.size_alloc] at hV
  have h12 := mxB_small hm
  have HE := Lib.hid (mx_eta hm)
  have HNUMB := Lib.hid (fun i j (hi : i < xss.length) (hj : j < xss.length) => mxB_num hm hi (j := j) hj)
  have HTL := Lib.hid (fun (h : 0 < xss.length) => topN_lt hm h)
  have HG := Lib.hid (grL_eq hm hxl)
  have HMT := Lib.hid (fun W (h : RdS W a xss) => maTop_any a xss cap W h hm)
  have HL : Hid (∀ k, k < xss.length → (rowL xss k).length = xss.length) := fun k hk => mxB_len hm hk
  have HOWN := Lib.hid (fun W (h : RdS W a xss) => maOwn_any a xss cap xss.length xss.length (atM xss) HE.out W h (by omega) (by omega))
  have hrowE : ∀ k, k < xss.length → rowL xss k = fmap (atM xss k) xss.length := fun k hk => by
    have h := list_fmap (rowL xss k)
    rw [mxB_len hm hk] at h
    exact h
  have HRE := Lib.hid hrowE
  obtain ⟨f, hf⟩ : ∃ f, f = atM xss := ⟨_, rfl⟩
  rw [← hf] at HNUMB HG HE HOWN HRE
  have HX := Lib.hid hx
  obtain ⟨N, hN⟩ : ∃ N, N = xss.length := ⟨_, rfl⟩
  have HN := Lib.hid hN
  have HTP : Hid (topI xss = if N = 0 then -1 else ((topN xss : Nat) : Int)) := by rw [Hid, topI, hN]
  rw [← hN] at hlen h12 HNUMB HTL HE HOWN HRE HG HL HMT hV hb0 hA hxl ⊢
  clear hm hx hf hrowE hN
  obtain ⟨M, hM⟩ : ∃ M, M = N + 1 := ⟨_, rfl⟩
  have HMM := Lib.hid hM
  go_enter Tryz.func106, Tryz.ntmps106
  go_wp2_with fail
  refine (HMT.out _ (HX.out.rd.below hb0)).mono ?_
  rintro e w1 ⟨rfl, hb⟩
  have b1 : Below w.heap.size w w1 := hb0.trans (hb.mono (by simp; omega))
  have hV1 := hV.below hb
  have hA1 := hA.below hb
  have ⟨zA1, cA1⟩ := hA1
  have hz1w : w.heap.size + 2 ≤ w1.heap.size := by have := hb.size; simp at this; omega
  have HV1 := Lib.hid hV1
  clear hb hV hA hb0 hV1 HMT
  by_cases ht : (x : Int) ≤ topI xss
  · have HSH : Hid (grL xss x = sqM (grAI f N x) N N) := by rw [Hid, HG.out, if_pos ht]
    rw [HTP.out] at ht ⊢
    have hpos : 0 < N := by
      apply Classical.byContradiction
      intro h
      rw [if_pos (by omega)] at ht
      omega
    rw [if_neg (by omega)] at ht ⊢
    have htl := HTL.out hpos
    have hxN1 : x < N := by omega
    obtain ⟨T, hT⟩ : ∃ T, T = topN xss := ⟨_, rfl⟩
    rw [← hT] at ht htl ⊢
    have hN1 : N - 1 < N := by omega
    have hcast : ((N : Int) - 1) = ((N - 1 : Nat) : Int) := by omega
    clear hT hM
    go_wp2_with fail
    refine (HOWN.out _ (HX.out.rd.below b1)).mono ?_
    rintro e w2 ⟨a0, c0, vl, rfl, hro, hb2⟩
    have b2 := b1.trans (hb2.mono b1.size)
    have hV2 := (HV1.out.below hb2).alloc (.cells #[.slice a0 N c0] 45)
    have hB2 := Box1.new w2 (.slice a0 N c0) 45
    have b2' := b2.alloc b2.size (.cells #[.slice a0 N c0] 45)
    have hro2 := (hro.below ((Below.refl _ _).alloc (Nat.le_refl _) (.cells #[.slice a0 N c0] 45)) (Nat.le_refl _)).mono (B' := w.heap.size + 2) (by omega)
    have hblk := hro.blk
    obtain ⟨g4, e4, hg4, hg5, hc4, hf4⟩ := hro2.outer (k := x) (by rw [sqM_len]; exact hxN1)
    subst e4
    obtain ⟨g6, c6, e6, hg6, hg7, hc6, hf6, hnew⟩ := hro2.num (i := x) (j := N - 1) (by rw [sqM_len]; exact hxN1) (by rw [sqM_rlen hxN1]; omega)
    have hne6 : g6 ≠ w2.heap.size := fun h => by
      have := hblk.2 x (by rw [sqM_len]; exact hxN1) g6 (by rw [e6]; rfl)
      omega
    rw [e6, sqM_rlen hxN1] at hc4
    rw [sqM_at hxN1 hN1] at hc6
    have hset := hnew (f x (N - 1) + 1)
    rw [setM_sq hxN1 hN1] at hset
    have hset2 : RowsP ((w2.alloc (.cells #[.slice (some ⟨g4, 0, none⟩) N c0] 45)).setCell ⟨g6, N - 1, none⟩ (.int .i64 (f x (N - 1) + 1))) (w.heap.size + 2) (.slice (some ⟨g4, 0, none⟩) N c0) vl (sqM (grAI f N x) N N) := hset
    have b4 := b2'.setCell (p := ⟨g6, N - 1, none⟩) (show w.heap.size ≤ g6 by omega) (.int .i64 (f x (N - 1) + 1))
    have hV4 := hV2.other (p := ⟨g6, N - 1, none⟩) (.int .i64 (f x (N - 1) + 1)) (show w.heap.size + 1 ≠ g6 by omega)
    have hB4 : Box1 ((w2.alloc (.cells #[.slice (some ⟨g4, 0, none⟩) N c0] 45)).setCell ⟨g6, N - 1, none⟩ (.int .i64 (f x (N - 1) + 1))) w2.heap.size (.slice (some ⟨g4, 0, none⟩) N c0) := hB2.kept (grown_set _ _ _) (by simp; omega)
    have ⟨z0, z9⟩ := HNUMB.out x (N - 1) hxN1 hN1
    obtain ⟨Z, hZ⟩ : ∃ Z, Z = f x (N - 1) := ⟨_, rfl⟩
    rw [← hZ] at hc6 hset2 b4 hV4 hB4 z0 z9
    have HS4 := Lib.hid hset2
    have HV4 := Lib.hid hV4
    have ⟨⟨zV4, cV4⟩, fV4⟩ := hV4
    have ⟨zB2, cB2⟩ := hB2
    have ⟨zB4, cB4⟩ := hB4
    clear hro hro2 hnew hset hset2 hV2 hV4 hb2 e6 hZ hblk hB2 hB4 cA1
    go_wp2_with fail
    have hV6 := HV4.out.set (.slice (some ⟨g4, 0, none⟩) N c0)
    have b6 := b4.setCell (p := ⟨w.heap.size + 1, 0, none⟩) (by simp) (.slice (some ⟨g4, 0, none⟩) N c0)
    refine bodyPost_ret (v := .agg #[.slice (some ⟨g4, 0, none⟩) N c0]) (by have ⟨⟨_, q1⟩, _⟩ := hV6; simp [results, Tryz.results106, go_sem, q1]) rfl ?_
    exact ⟨some ⟨g4, 0, none⟩, c0, vl, by rw [HSH.out, sqM_len], by rw [HSH.out, sqM_len]; exact (HS4.out.setBelow (show w.heap.size + 1 < w.heap.size + 2 by omega) _).mono (by omega), b6⟩
  · have HSH : Hid (grL xss x = sqM (grBI f N x) M M) := by rw [Hid, HG.out, if_neg ht, hM]
    have hO1 := Var1.new w1 (.slice none 0 0) 45
    have bb1 : Below w1.heap.size w1 (w1.alloc (.cells #[.slice none 0 0] 45)) := (by repeat (first | exact Below.refl _ _ | assumption | refine Below.alloc ?_ (by first | exact Nat.le_refl _ | (simp only [World.size_alloc, World.size_setCell, World.size_drew]; omega) | omega) _ | refine Below.setCell ?_ (by first | exact Nat.le_refl _ | (simp only [World.size_alloc, World.size_setCell, World.size_drew]; omega) | omega) _ | refine Below.drew ?_))
    have HV2 := Lib.hid (HV1.out.below bb1)
    have HO1 := Lib.hid hO1
    have HB1 := Lib.hid (b1.trans (bb1.mono b1.size))
    have hA2 := hA1.below bb1
    have HA2 := Lib.hid hA2
    have ⟨zA2, cA2⟩ := hA2
    obtain ⟨b4, hb4⟩ : ∃ b4, b4 = w1.heap.size := ⟨_, rfl⟩
    have HB4 := Lib.hid hb4
    have hz4 : w.heap.size + 2 ≤ b4 := by omega
    rw [← hb4] at HO1
    generalize topI xss = tI at ht ⊢
    have hcM : ((N : Int) + 1) = (M : Int) := by omega
    have hNM : N < M := by omega
    have hM13 : M ≤ 13 := by omega
    clear hb4 hO1 bb1 hA2 HOWN hM b1
    go_wp2_with fail
    go_loopw [8] (fun i wr => ∃ (k : Nat) (v : Value) (vl : List Value), k ≤ M ∧ i = .int .i64 k ∧ Var1 wr b4 v ∧ RowsP wr (b4 + 1) v vl (sqM (grBI f N x) k M) ∧ Var1 wr (w.heap.size + 1) (.slice none 0 0) ∧ Below w.heap.size w wr ∧ Box1 wr w.heap.size (.slice a N cap)) (fun i _ => M - (intOf i).toNat)
    case atStart => exact ⟨0, .slice none 0 0, [], Nat.zero_le _, rfl, HO1.out, RowsP.nil _ _, HV2.out, HB1.out, HA2.out⟩
    case round =>
      rw [← HB4.out]
      obtain ⟨k, v, vl, hk, rfl, hO, hro, hV, hb, hA⟩ := hrel
      have HA := Lib.hid hA
      have ⟨zA, cA⟩ := hA
      clear hA
      have hbs := hb.size
      have hO9 := hO.1.1
      have HRO := Lib.hid hro
      obtain ⟨av, cv, ev⟩ := hro.o.form
      rw [sqM_len] at ev
      subst ev
      have HO := Lib.hid hO
      have HV := Lib.hid hV
      by_cases hlt : k < M
      · skip
        have k0 : (k : Int) ≤ (N : Int) := by omega
        have HN1 : Hid (sqM (grBI f N x) (k+1) M = sqM (grBI f N x) k M ++ [fmap (grBI f N x k) M]) := sqM_succ _ _ _
        have h63 : (sqM (grBI f N x) k M).length ≤ 1048576 := by rw [sqM_len]; omega
        obtain ⟨W1, hW1⟩ : ∃ x : World, x = wr := ⟨_, rfl⟩
        subst hW1
        have ⟨⟨zO, cO⟩, fO⟩ := hO
        by_cases hkx : k = x
        · have hkk : ((k : Int) == (x : Int)) = true := by simp [hkx]
          have HRW : Hid ((List.replicate M (0:Int)).set N 1 = fmap (grBI f N x k) M) := by rw [Hid, hkx, HMM.out]; exact gr_mid
          clear hkx hro hO hV
          go_wp2_with (at_make; refine wpList_make_full _ rfl (.tmp 69) (.tmp 69) 24 rfl W1.heap.size 3 i0 (.int .i64 0) 1 Tryz.underlying24 hi hz0 hz1 .i64 .i64 _ _ M rfl rfl rfl rfl (by rw [hz2]; omega) (by unfold maxLen; omega) (Nat.le_refl _) ?_)
          intro w3 hown hgrow
          have hb3 : Below W1.heap.size W1 w3 := (Below.refl _ _).grown hgrow (Nat.le_refl _) (fun k h => by cases h)
          have hown1 := made_row (fun _ => 0) (by rw [Nat.mul_one]; exact hown)
          rw [show rowF (fun _ => 0) M 0 = List.replicate M (0:Int) by simp [rowF, fmap]] at hown1
          have hlr : (List.replicate M (0:Int)).length = M := List.length_replicate
          have ⟨cN, fN⟩ := hown1.at' hlr.symm (i := N) (by omega)
          have hput := (hown1.put hlr.symm N 1).1
          rw [HRW.out] at hput
          have hbU := hb3.setCell (p := ⟨W1.heap.size, N, none⟩) (Nat.le_refl _) (.int .i64 1)
          have HU3 := Lib.hid hput
          have HRO3 := Lib.hid (HRO.out.below hbU (Nat.le_refl _))
          have hO3 := HO.out.below hbU
          have ⟨⟨zO2, cO2⟩, fO2⟩ := HO.out.below hb3
          have ⟨⟨zO3, cO3⟩, fO3⟩ := hO3
          have HO3 := Lib.hid hO3
          have HV3 := Lib.hid (HV.out.below hbU)
          have HA3 := Lib.hid (HA.out.below hbU)
          have HB3 := Lib.hid (hb.trans (hbU.mono hbs))
          clear hown hgrow hown1 hlr hput hO3
          go_wp2_with (at_builtin; refine push_row (v := .slice av k cv) (C := W1.heap.size) rfl _ _ rfl rfl HRO3.out HU3.out (by first | rfl | (simp only [World.size_setCell]; rfl) | simp [Act.eval]) h63 (by omega) (by have := hbU.size; omega) (fun c e => (HRO.out.blk.1 c e)) (fun i hi c e => HRO.out.blk.2 i hi c e) ?_)
          intro v5 w5 ho5 hg5
          have hlo := HRO3.out.o.lt
          have hO5 := HO3.out.kept hg5 (ne_own (fun c e => by have := (hlo c e).1; omega))
          have hV5 := HV3.out.kept hg5 (ne_own (fun c e => by have := (hlo c e).1; omega))
          have b5 : Below w.heap.size w w5 := HB3.out.trans (below_of_grown hg5 (fun c e => by have := (hlo c e).1; omega) (by have := HB3.out.size; omega))
          obtain ⟨a5, c5, e5⟩ := ho5.o.form
          subst e5
          have ⟨⟨zO5, cO5⟩, fO5⟩ := hO5
          obtain ⟨L5, hL5⟩ : ∃ L5, L5 = (sqM (grBI f N x) k M ++ [fmap (grBI f N x k) M]).length := ⟨_, rfl⟩
          rw [← hL5] at ho5 ⊢
          have ho6 := ho5.setBelow (p := ⟨b4, 0, none⟩) (show b4 < b4 + 1 by omega) (.slice a5 L5 c5)
          have hO6 := hO5.set (.slice a5 L5 c5)
          have HA6 := Lib.hid ((HA3.out.kept hg5 (ne_own (fun c e => by have := (hlo c e).1; omega))).kept (grown_set w5 ⟨b4, 0, none⟩ (.slice a5 L5 c5)) (by simp; omega))
          have hV6 := hV5.other (p := ⟨b4, 0, none⟩) (.slice a5 L5 c5) (show w.heap.size + 1 ≠ b4 by omega)
          have b6 := b5.setCell (p := ⟨b4, 0, none⟩) (show w.heap.size ≤ b4 by omega) (.slice a5 L5 c5)
          have H6 := Lib.hid (And.intro ho6 (And.intro hO6 (And.intro hV6 b6)))
          clear ho5 hg5 hlo hO5 hV5 ho6 hO6 hV6 hL5
          go_wp2_with fail
          go_roundw
          case rel => exact ⟨k + 1, _, _, by omega, by go_num, H6.out.2.1, by rw [HN1.out]; exact H6.out.1, H6.out.2.2.1, H6.out.2.2.2, HA6.out⟩
          case measure => simp [intOf]; omega
        · have hkk : ((k : Int) == (x : Int)) = false := by simp; omega
          by_cases hkx2 : x < k
          · have g1 : (x : Int) < (k : Int) := by omega
            have hxN : x ≤ N := by omega
            obtain ⟨j, hj⟩ : ∃ j, j = k - 1 := ⟨_, rfl⟩
            have hcj : ((k : Int) - 1) = (j : Int) := by omega
            have hcj2 : IntKind.i64.wrap (j : Int) = (j : Int) := by rw [i64_wrap, IntWalk.wrap64_in _ ⟨by omega, by omega⟩]
            have hjN : j < N := by omega
            obtain ⟨b5, off5, a5, cap5, rfl, hbl5, hc5, hr5, hle5⟩ := (HX.out.below hb).row (k := j) (by rw [← HN.out]; exact hjN)
            rw [HL.out j hjN] at hc5 hle5
            rw [HRE.out j hjN] at hr5
            have HNR : Hid (∀ W, Below W1.heap.size W1 W → Calls Tryz.prog 134 #[.slice a5 N cap5, .int .i64 (x : Int)] W fun e w' => ∃ a' c', e = .returned (.slice a' M c') ∧ OwnI w' W.heap.size (.slice a' M c') (fmap (grBI f N x k) M) ∧ Below W.heap.size W w') := fun W h => by
              have h1 := maWide_any a5 (fmap (f j) N) cap5 x W (hr5.below h) (by rw [fmap_len]; exact hle5) (by rw [fmap_len]; omega) (by rw [fmap_len]; exact hxN) (by rw [fmap_len]; omega)
              rw [fmap_len, fmap_ins hxN, hj, gr_hi (d := N) hkx2, ← HMM.out] at h1
              exact h1
            clear hj hkx2 hkx hro hO hV hr5 hle5
            go_wp2_with fail
            go_region_law (first | (have _g := HR2; refine step_push_row (by rfl) _ _ (by rfl) (by rfl) (by rfl) (HR2.out.below ((Below.refl _ _).alloc (Nat.le_refl _) _) (Nat.le_refl _)) (sqM_len _ _ _) (ho3.alloc _) (by simp) (by omega) (by omega) (by simp; omega) (HRO.out.blk.1) (HRO.out.blk.2) ?_; intro g5 c5 w5 ho5 hg5; have hg6 := grown_alloc_set hg5; have hO5 := HO3.out.kept hg6 (ne_own (fun c e => by have := (HR2.out.o.lt c e).1; omega)); have ⟨⟨zO5, cO5⟩, fO5⟩ := hO5) | (go_simp; go_at_call 134; refine (HNR.out _ (Joins.below_draws _ _ _)).mono ?_; rintro e w3 ⟨a3, c3, rfl, ho3', hb3⟩; have ht3 := (Joins.below_draws _ _ _).trans hb3; have hs3 := ht3.size; have ho3 := ho3'.mono (B' := W1.heap.size) (by simp); have HR2 := Lib.hid (HRO.out.below ht3 (Nat.le_refl _)); have HO3 := Lib.hid (HO.out.below ht3); have ⟨⟨zO3, cO3⟩, fO3⟩ := HO3.out; have HA3 := Lib.hid (HA.out.below ht3); clear ho3' hb3))
            all_goals
              have hlo := HR2.out.o.lt
              have hV5 := (HV.out.below ht3).kept hg6 (ne_own (fun c e => by have := (hlo c e).1; omega))
              have b5 : Below w.heap.size w w5 := (hb.trans (ht3.mono hbs)).trans (below_of_grown hg6 (fun c e => by have := (hlo c e).1; omega) (by omega))
              have ho6 := ho5.setBelow (p := ⟨b4, 0, none⟩) (show b4 < b4 + 1 by omega) (.slice (some ⟨g5, 0, none⟩) (k + 1) c5)
              have hO6 := hO5.set (.slice (some ⟨g5, 0, none⟩) (k + 1) c5)
              have HA6 := Lib.hid ((HA3.out.kept hg6 (ne_own (fun c e => by have := (hlo c e).1; omega))).kept (grown_set w5 ⟨b4, 0, none⟩ (.slice (some ⟨g5, 0, none⟩) (k + 1) c5)) (by simp; omega))
              have hV6 := hV5.other (p := ⟨b4, 0, none⟩) (.slice (some ⟨g5, 0, none⟩) (k + 1) c5) (show w.heap.size + 1 ≠ b4 by omega)
              have b6 := b5.setCell (p := ⟨b4, 0, none⟩) (show w.heap.size ≤ b4 by omega) (.slice (some ⟨g5, 0, none⟩) (k + 1) c5)
              have H6 := Lib.hid (And.intro ho6 (And.intro hO6 (And.intro hV6 b6)))
              clear ho5 hg5 hg6 hlo hO5 hV5 ho6 hO6 hV6 HR2 ho3 HO3
              go_wp2_with fail
              go_roundw
              case rel => exact ⟨k + 1, _, _, by omega, by go_num, H6.out.2.1, by rw [HN1.out]; exact H6.out.1, H6.out.2.2.1, H6.out.2.2.2, HA6.out⟩
              case measure => simp [intOf]; omega
          · have g1 : ¬ (x : Int) < (k : Int) := by omega
            have hkN : k < N := by omega
            have hkx3 : k < x := by omega
            have hxN : x ≤ N := by omega
            obtain ⟨b5, off5, a5, cap5, rfl, hbl5, hc5, hr5, hle5⟩ := (HX.out.below hb).row (k := k) (by rw [← HN.out]; exact hkN)
            rw [HL.out k hkN] at hc5 hle5
            rw [HRE.out k hkN] at hr5
            have HNR : Hid (Calls Tryz.prog 134 #[.slice a5 N cap5, .int .i64 (x : Int)] W1 fun e w' => ∃ a' c', e = .returned (.slice a' M c') ∧ OwnI w' W1.heap.size (.slice a' M c') (fmap (wdF (f k) x) M) ∧ Below W1.heap.size W1 w') := by
              have h1 := maWide_any a5 (fmap (f k) N) cap5 x W1 hr5 (by rw [fmap_len]; exact hle5) (by rw [fmap_len]; omega) (by rw [fmap_len]; exact hxN) (by rw [fmap_len]; omega)
              rw [fmap_len, fmap_ins hxN, ← HMM.out] at h1
              exact h1
            clear hkx hkx2 hro hO hV hr5 hle5
            go_wp2_with fail
            refine HNR.out.mono ?_
            rintro e w2 ⟨a2, c2, rfl, ho2, hb2⟩
            have hs2 := hb2.size
            have hpt : ∃ g2, a2 = some ⟨g2, 0, none⟩ := by
              rcases ho2.2 with ⟨e9, h0⟩ | ⟨g9, cap9, cur9, e9, _⟩
              · rw [fmap_len] at h0; omega
              · simp only [Value.slice.injEq] at e9; exact ⟨g9, e9.1⟩
            obtain ⟨g2, rfl⟩ := hpt
            have hgl := ho2.lt g2 rfl
            have ⟨⟨zO2, cO2⟩, fO2⟩ := HO.out.below hb2
            have hwl : (fmap (wdF (f k) x) M).length = M := fmap_len _ _
            by_cases hxN2 : x < N
            · have t2 : (x : Int) < (N : Int) := by omega
              have ⟨cx, fx⟩ := ho2.at' hwl.symm (i := x) (by omega)
              have ⟨cN, fN⟩ := ho2.at' hwl.symm (i := N) (by omega)
              rw [fmap_nth _ (by omega)] at cx cN
              have hput1 := (ho2.put hwl.symm x (wdF (f k) x N)).1
              have hput2 := (hput1.put (by rw [List.length_set]; exact hwl.symm) N 0).1
              rw [HMM.out, gr_lo hkx3 hxN2, ← HMM.out] at hput2
              have hbU := (hb2.setCell (p := ⟨g2, x, none⟩) hgl.1 (.int .i64 (wdF (f k) x N))).setCell (p := ⟨g2, N, none⟩) hgl.1 (.int .i64 0)
              obtain ⟨V, hVV⟩ : ∃ V, V = wdF (f k) x N := ⟨_, rfl⟩
              obtain ⟨U, hUU⟩ : ∃ V, V = wdF (f k) x x := ⟨_, rfl⟩
              rw [← hVV] at cN hput2 hbU
              rw [← hUU] at cx
              have HU3 := Lib.hid hput2
              have hne9 : ¬ x = N := by omega
              have hne8 : ¬ N = x := by omega
              have hO3 := HO.out.below hbU
              have ⟨⟨zO3, cO3⟩, fO3⟩ := hO3
              have HO3 := Lib.hid hO3
              have HRO3 := Lib.hid (HRO.out.below hbU (Nat.le_refl _))
              have HV3 := Lib.hid (HV.out.below hbU)
              have HA3 := Lib.hid (HA.out.below hbU)
              have HB3 := Lib.hid (hb.trans (hbU.mono hbs))
              clear hO3
              clear hput1 hput2 hwl ho2 hVV hUU
              go_wp2_with (at_builtin; refine push_row (v := .slice av k cv) (C := W1.heap.size) rfl _ _ rfl rfl HRO3.out HU3.out (by first | rfl | (simp only [World.size_setCell]; rfl) | simp [Act.eval]) h63 (by omega) (by have := hbU.size; omega) (fun c e => (HRO.out.blk.1 c e)) (fun i hi c e => HRO.out.blk.2 i hi c e) ?_)
              intro v5 w5 ho5 hg5
              have hlo := HRO3.out.o.lt
              have hO5 := HO3.out.kept hg5 (ne_own (fun c e => by have := (hlo c e).1; omega))
              have hV5 := HV3.out.kept hg5 (ne_own (fun c e => by have := (hlo c e).1; omega))
              have b5 : Below w.heap.size w w5 := HB3.out.trans (below_of_grown hg5 (fun c e => by have := (hlo c e).1; omega) (by have := HB3.out.size; omega))
              obtain ⟨a5, c5, e5⟩ := ho5.o.form
              subst e5
              have ⟨⟨zO5, cO5⟩, fO5⟩ := hO5
              obtain ⟨L5, hL5⟩ : ∃ L5, L5 = (sqM (grBI f N x) k M ++ [fmap (grBI f N x k) M]).length := ⟨_, rfl⟩
              rw [← hL5] at ho5 ⊢
              have ho6 := ho5.setBelow (p := ⟨b4, 0, none⟩) (show b4 < b4 + 1 by omega) (.slice a5 L5 c5)
              have hO6 := hO5.set (.slice a5 L5 c5)
              have HA6 := Lib.hid ((HA3.out.kept hg5 (ne_own (fun c e => by have := (hlo c e).1; omega))).kept (grown_set w5 ⟨b4, 0, none⟩ (.slice a5 L5 c5)) (by simp; omega))
              have hV6 := hV5.other (p := ⟨b4, 0, none⟩) (.slice a5 L5 c5) (show w.heap.size + 1 ≠ b4 by omega)
              have b6 := b5.setCell (p := ⟨b4, 0, none⟩) (show w.heap.size ≤ b4 by omega) (.slice a5 L5 c5)
              have H6 := Lib.hid (And.intro ho6 (And.intro hO6 (And.intro hV6 b6)))
              clear ho5 hg5 hlo hO5 hV5 ho6 hO6 hV6 hL5
              go_wp2_with fail
              go_roundw
              case rel => exact ⟨k + 1, _, _, by omega, by go_num, H6.out.2.1, by rw [HN1.out]; exact H6.out.1, H6.out.2.2.1, H6.out.2.2.2, HA6.out⟩
              case measure => simp [intOf]; omega
            · have t2 : ¬ (x : Int) < (N : Int) := by omega
              have hxe : x = N := by omega
              have e9 : fmap (wdF (f k) x) M = fmap (grBI f N x k) M := by rw [HMM.out, hxe]; exact gr_end hkN
              have hU := ho2
              rw [e9] at hU
              have HU3 := Lib.hid hU
              have hbU := hb2
              have hO3 := HO.out.below hbU
              have ⟨⟨zO3, cO3⟩, fO3⟩ := hO3
              have HO3 := Lib.hid hO3
              have HRO3 := Lib.hid (HRO.out.below hbU (Nat.le_refl _))
              have HV3 := Lib.hid (HV.out.below hbU)
              have HA3 := Lib.hid (HA.out.below hbU)
              have HB3 := Lib.hid (hb.trans (hbU.mono hbs))
              clear hO3
              clear hwl ho2 hU hxe e9
              go_wp2_with (at_builtin; refine push_row (v := .slice av k cv) (C := W1.heap.size) rfl _ _ rfl rfl HRO3.out HU3.out (by first | rfl | (simp only [World.size_setCell]; rfl) | simp [Act.eval]) h63 (by omega) (by have := hbU.size; omega) (fun c e => (HRO.out.blk.1 c e)) (fun i hi c e => HRO.out.blk.2 i hi c e) ?_)
              intro v5 w5 ho5 hg5
              have hlo := HRO3.out.o.lt
              have hO5 := HO3.out.kept hg5 (ne_own (fun c e => by have := (hlo c e).1; omega))
              have hV5 := HV3.out.kept hg5 (ne_own (fun c e => by have := (hlo c e).1; omega))
              have b5 : Below w.heap.size w w5 := HB3.out.trans (below_of_grown hg5 (fun c e => by have := (hlo c e).1; omega) (by have := HB3.out.size; omega))
              obtain ⟨a5, c5, e5⟩ := ho5.o.form
              subst e5
              have ⟨⟨zO5, cO5⟩, fO5⟩ := hO5
              obtain ⟨L5, hL5⟩ : ∃ L5, L5 = (sqM (grBI f N x) k M ++ [fmap (grBI f N x k) M]).length := ⟨_, rfl⟩
              rw [← hL5] at ho5 ⊢
              have ho6 := ho5.setBelow (p := ⟨b4, 0, none⟩) (show b4 < b4 + 1 by omega) (.slice a5 L5 c5)
              have hO6 := hO5.set (.slice a5 L5 c5)
              have HA6 := Lib.hid ((HA3.out.kept hg5 (ne_own (fun c e => by have := (hlo c e).1; omega))).kept (grown_set w5 ⟨b4, 0, none⟩ (.slice a5 L5 c5)) (by simp; omega))
              have hV6 := hV5.other (p := ⟨b4, 0, none⟩) (.slice a5 L5 c5) (show w.heap.size + 1 ≠ b4 by omega)
              have b6 := b5.setCell (p := ⟨b4, 0, none⟩) (show w.heap.size ≤ b4 by omega) (.slice a5 L5 c5)
              have H6 := Lib.hid (And.intro ho6 (And.intro hO6 (And.intro hV6 b6)))
              clear ho5 hg5 hlo hO5 hV5 ho6 hO6 hV6 hL5
              go_wp2_with fail
              go_roundw
              case rel => exact ⟨k + 1, _, _, by omega, by go_num, H6.out.2.1, by rw [HN1.out]; exact H6.out.1, H6.out.2.2.1, H6.out.2.2.2, HA6.out⟩
              case measure => simp [intOf]; omega
      · obtain rfl : k = M := by omega
        have t1 : ¬ (k : Int) ≤ (N : Int) := by omega
        have ⟨⟨zO, cO⟩, fO⟩ := hO
        have ⟨⟨zV, cV⟩, fV⟩ := hV
        clear hro hO hV
        go_wp2_with fail
        have hV2 := HV.out.set (.slice av k cv)
        have b2 := hb.setCell (p := ⟨w.heap.size + 1, 0, none⟩) (by simp) (.slice av k cv)
        refine bodyPost_ret (v := .agg #[.slice av k cv]) (by have ⟨⟨_, q1⟩, _⟩ := hV2; simp [results, Tryz.results106, go_sem, q1]) rfl ?_
        exact ⟨av, cv, by rw [HSH.out, sqM_len], ⟨vl, by rw [HSH.out, sqM_len]; exact (HRO.out.setBelow (show w.heap.size + 1 < b4 + 1 by omega) _).mono (by omega)⟩, b2⟩

set_option maxRecDepth 100000 in
set_option maxHeartbeats 1000000 in
theorem maOf_any (a : Option Addr) (xs : List Int) (cap : Nat) (w : World) (hx : Rd w a xs) (hm : ascB xs = true) :
    Calls Tryz.prog 80 #[.slice a xs.length cap] w fun e w' => ∃ a0 c0 vl, e = .returned (.agg #[.slice a0 (moK xs xs.length).length c0]) ∧ RowsP w' w.heap.size (.slice a0 (moK xs xs.length).length c0) vl (moK xs xs.length) ∧ Below w.heap.size w w' := by
  have hlen := hx.len
  have hV := Var1.new w (.slice none 0 0) 45
  have hb0 : Below w.heap.size w (w.alloc (.cells #[.slice none 0 0] 45)) := (by repeat (first | exact Below.refl _ _ | assumption | refine Below.alloc ?_ (by first | exact Nat.le_refl _ | (simp only [World.size_alloc, World.size_setCell, World.size_drew]; omega) | omega) _ | refine Below.setCell ?_ (by first | exact Nat.le_refl _ | (simp only [World.size_alloc, World.size_setCell, World.size_drew]; omega) | omega) _ | refine Below.drew ?_))
  have HX := Lib.hid hx
  have h12 := (ascB_iff.1 hm).1
  have HOK := Lib.hid (fun k (hk : k ≤ xs.length) => moK_ok hm hk)
  have HGB := Lib.hid (fun k (hk : k < xs.length) => moK_gw hm hk)
  have HNB := Lib.hid (fun k (hk : k < xs.length) => ascB_small hm hk)
  obtain ⟨w1, hw1⟩ : ∃ w1, w1 = w.alloc (.cells #[.slice none 0 0] 45) := ⟨_, rfl⟩
  have bb1 : Below w1.heap.size w1 (w1.alloc (.cells #[.slice none 0 0] 45)) := (by repeat (first | exact Below.refl _ _ | assumption | refine Below.alloc ?_ (by first | exact Nat.le_refl _ | (simp only [World.size_alloc, World.size_setCell, World.size_drew]; omega) | omega) _ | refine Below.setCell ?_ (by first | exact Nat.le_refl _ | (simp only [World.size_alloc, World.size_setCell, World.size_drew]; omega) | omega) _ | refine Below.drew ?_))
  have hz1 : w1.heap.size = w.heap.size + 1 := by rw [hw1]; simp
  rw [← hw1] at hV hb0
  have HV1 := Lib.hid (hV.below bb1)
  have HO1 := Lib.hid (Var1.new w1 (.slice none 0 0) 45)
  have HB1 := Lib.hid (hb0.trans (bb1.mono hb0.size))
  rw [hw1] at HO1 HV1 HB1
  rw [World.size_alloc] at HO1
  obtain ⟨N, hN⟩ : ∃ N, N = xs.length := ⟨_, rfl⟩
  have HN := Lib.hid hN
  rw [← hN] at hlen h12 HOK HGB HNB ⊢
  clear hV bb1 hx hw1 hz1 hb0 hN hm
  go_enter Tryz.func80, Tryz.ntmps80
  go_wp2_with fail
  go_loopw [9] (fun i wr => ∃ (k : Nat) (v : Value) (vl : List Value), k ≤ N ∧ i = .int .i64 k ∧ Var1 wr (w.heap.size + 1) v ∧ RowsP wr (w.heap.size + 2) v vl (moK xs k) ∧ Var1 wr w.heap.size (.slice none 0 0) ∧ Below w.heap.size w wr) (fun i _ => N - (intOf i).toNat)
  case atStart => exact ⟨0, .slice none 0 0, [], Nat.zero_le _, rfl, HO1.out, RowsP.nil _ _, HV1.out, HB1.out⟩
  case round =>
    obtain ⟨k, v, vl, hk, rfl, hO, hro, hV, hb⟩ := hrel
    have hbs := hb.size
    have hO9 := hO.1.1
    obtain ⟨av, cv, ev⟩ := hro.o.form
    subst ev
    have ⟨⟨zO, cO⟩, fO⟩ := hO
    by_cases hlt : k < N
    · have k1 : (k : Int) < (N : Int) := by omega
      obtain ⟨b, off, rfl, hbl, hc⟩ := (HX.out.below hb).cell k (by rw [← HN.out]; exact hlt)
      have ⟨gm, g0, g1, g2⟩ := gwB_iff.1 (HGB.out k hlt)
      obtain ⟨x, hxx⟩ : ∃ x : Nat, nth xs k = (x : Int) := ⟨(nth xs k).toNat, by omega⟩
      have HG := Lib.hid (maGrow_any av (moK xs k) cv x wr hro.rdC gm (by omega))
      rw [show grL (moK xs k) x = moK xs (k+1) by rw [moK, hxx, Int.toNat_natCast]] at HG
      have HV := Lib.hid hV
      have HO := Lib.hid hO
      rw [hxx] at hc
      obtain ⟨L, hL⟩ : ∃ L, L = (moK xs (k+1)).length := ⟨_, rfl⟩
      have HL := Lib.hid hL
      rw [← hL] at HG
      generalize (moK xs k).length = L0 at HG cO ⊢
      clear hro hV hO hxx hL gm g0 g1 g2
      go_wp2_with fail
      refine HG.out.mono ?_
      rintro e w2 ⟨a2, c2, ul, rfl, hro2, hb2⟩
      have hO2 := HO.out.below hb2
      have hV2 := HV.out.below hb2
      have b2 := hb.trans (hb2.mono hbs)
      have ⟨⟨zO2, cO2⟩, fO2⟩ := hO2
      have hs2 := hb2.size
      have hO3 := hO2.set (.slice a2 L c2)
      have hV3 := hV2.other (p := ⟨w.heap.size + 1, 0, none⟩) (.slice a2 L c2) (show w.heap.size ≠ w.heap.size + 1 by omega)
      have hro3 := (hro2.setBelow (p := ⟨w.heap.size + 1, 0, none⟩) hO9 (.slice a2 L c2)).mono (B' := w.heap.size + 2) (by omega)
      have b3 := b2.setCell (p := ⟨w.heap.size + 1, 0, none⟩) (show w.heap.size ≤ w.heap.size + 1 by omega) (.slice a2 L c2)
      have H6 := Lib.hid (And.intro hO3 (And.intro hro3 (And.intro hV3 b3)))
      clear hro2 hO2 hV2 hO3 hV3 hro3 b3 hb2
      go_wp2_with fail
      go_roundw
      case rel => exact ⟨k + 1, _, _, by omega, by go_num, H6.out.1, H6.out.2.1, H6.out.2.2.1, H6.out.2.2.2⟩
      case measure => simp [intOf]; omega
    · obtain rfl : k = N := by omega
      have ⟨⟨zV, cV⟩, fV⟩ := hV
      obtain ⟨L, hL⟩ : ∃ L, L = (moK xs k).length := ⟨_, rfl⟩
      have HL := Lib.hid hL
      rw [← hL] at hro cO
      have HRO := Lib.hid hro
      have HV := Lib.hid hV
      clear hro hO hV hL
      go_wp2_with fail
      have hV2 := HV.out.set (.slice av L cv)
      have b2 := hb.setCell (p := ⟨w.heap.size, 0, none⟩) (by simp) (.slice av L cv)
      refine bodyPost_ret (v := .agg #[.slice av L cv]) (by have ⟨⟨_, q1⟩, _⟩ := hV2; simp [results, Tryz.results80, go_sem, q1]) rfl ?_
      exact ⟨av, cv, vl, by rw [HL.out], by rw [← HL.out]; exact (HRO.out.setBelow (show w.heap.size < w.heap.size + 2 by omega) _).mono (by omega), b2⟩

theorem rd_lit5 (w : World) (x0 x1 x2 x3 x4 : Int) (t : TypeId) : Rd (w.alloc (.cells #[.int .i64 x0, .int .i64 x1, .int .i64 x2, .int .i64 x3, .int .i64 x4] t)) (some ⟨w.heap.size, 0, none⟩) [x0, x1, x2, x3, x4] :=
  ⟨by simp, fun k hk => ⟨w.heap.size, 0, rfl, by simp, by
    have : k = 0 ∨ k = 1 ∨ k = 2 ∨ k = 3 ∨ k = 4 := by simp at hk; omega
    rcases this with rfl | rfl | rfl | rfl | rfl <;> simp [nth]⟩⟩
set_option maxRecDepth 100000 in
set_option maxHeartbeats 4000000 in
theorem matrix_any (p L m : Nat) (w : World) (h : Cur w p L) (hL : L ≤ 600000000) (hm : m ≤ 12) :
    Calls Tryz.prog 48 #[.pointer (some ⟨p, 0, none⟩), .int .i64 (m : Int)] w (MatD w p (L + 200)) := by
  have hpw := h.lt
  have hb0 : Below w.heap.size w (w.alloc (.cells #[.slice none 0 0] 45)) := (by repeat (first | exact Below.refl _ _ | assumption | refine Below.alloc ?_ (by first | exact Nat.le_refl _ | (simp only [World.size_alloc, World.size_setCell, World.size_drew]; omega) | omega) _ | refine Below.setCell ?_ (by first | exact Nat.le_refl _ | (simp only [World.size_alloc, World.size_setCell, World.size_drew]; omega) | omega) _ | refine Below.drew ?_))
  have H := Lib.hid (h.below hb0)
  have HZ := Lib.hid (Var1.new w (.slice none 0 0) 45)
  clear h
  go_enter Tryz.func48, Tryz.ntmps48
  go_wp2_with fail
  refine (ascent_any p L m _ H.out hL hm).mono ?_
  rintro e w1 ⟨a1, c1, xs, rfl, ho1, hl1, hx1, hc1, hd1⟩
  have hs1 : w.heap.size + 1 ≤ w1.heap.size := by have := hd1.size; simpa using this
  replace HZ := Lib.hid (HZ.out.drawn hd1 (by omega))
  have HD1 : Hid (Drawn w w1 p) := hd1.of_alloc
  have HC1 := Lib.hid hc1
  have hcp1 := ho1.capLe
  have HO1 := Lib.hid ho1.rd
  clear H hb0 ho1 hx1 hc1 hd1
  go_wp2_with fail
  refine (asGood_any a1 xs c1 _ HO1.out hcp1).mono ?_
  rintro e w2 ⟨rfl, hb2⟩
  replace HZ := Lib.hid (HZ.out.below hb2)
  replace HD1 := Lib.hid (HD1.out.below hb2)
  replace HC1 := Lib.hid (HC1.out.below hb2)
  replace HO1 := Lib.hid (HO1.out.below hb2)
  have hs2 := hb2.size
  clear hb2
  cases hA : ascB xs
  case' false =>
    go_wp2_with fail
    refine (orUpTo3_any _).mono ?_
    rintro e w3 ⟨a3, c3, rfl, ho3, hb3⟩
    replace HZ := Lib.hid (HZ.out.below hb3)
    replace HD1 := Lib.hid (HD1.out.below hb3)
    replace HC1 := Lib.hid (HC1.out.below hb3)
    have hs3 := hb3.size
    have HM : Hid (∀ W, Rd W a3 [0, 1, 2] → Calls Tryz.prog 80 #[.slice a3 3 c3] W fun e w' => ∃ a0 c0 vl, e = .returned (.agg #[.slice a0 (moK [0, 1, 2] 3).length c0]) ∧ RowsP w' W.heap.size (.slice a0 (moK [0, 1, 2] 3).length c0) vl (moK [0, 1, 2] 3) ∧ Below W.heap.size W w') := fun W h => maOf_any a3 [0, 1, 2] c3 W h (by decide)
    have hmr : (moK [0, 1, 2] 3).length ≤ 12 ∧ ∀ k, k < (moK [0, 1, 2] 3).length → (rowL (moK [0, 1, 2] 3) k).length = (moK [0, 1, 2] 3).length := moK_rows (xs := [0, 1, 2]) (by decide)
    have HR3 := Lib.hid ho3.rd
    generalize moK [0, 1, 2] 3 = xss at HM hmr
    clear hb3 ho3 HO1
    go_wp2_with fail
    refine (HM.out _ HR3.out).mono ?_
    clear HM HR3
  case' true =>
    obtain ⟨w3, hw3⟩ : ∃ x, x = w2 := ⟨_, rfl⟩
    subst hw3
    have hs3 : w1.heap.size ≤ w3.heap.size := hs2
    have HM := Lib.hid (fun W (h : Rd W a1 xs) => maOf_any a1 xs c1 W h hA)
    have hmr := moK_rows hA
    generalize moK xs xs.length = xss at HM hmr
    go_wp2_with fail
    refine (HM.out _ HO1.out).mono ?_
    clear HM HO1
  all_goals
    rintro e w4 ⟨a4, c4, vl, rfl, ho4, hb4⟩
    have HMR := Lib.hid hmr
    have hs4 := hb4.size
    have bb4 : Below w4.heap.size w4 (w4.alloc (.cells #[.slice a4 xss.length c4] 45)) := (by repeat (first | exact Below.refl _ _ | assumption | refine Below.alloc ?_ (by first | exact Nat.le_refl _ | (simp only [World.size_alloc, World.size_setCell, World.size_drew]; omega) | omega) _ | refine Below.setCell ?_ (by first | exact Nat.le_refl _ | (simp only [World.size_alloc, World.size_setCell, World.size_drew]; omega) | omega) _ | refine Below.drew ?_))
    have HK : Hid (MatK w p (L + 100) w4.heap.size a4 c4 vl xss (w4.alloc (.cells #[.slice a4 xss.length c4] 45))) :=
      ⟨(HZ.out.below hb4).below bb4, Var1.new w4 _ _, (ho4.mono (by omega)).below bb4 (Nat.le_refl _), (HC1.out.below hb4).below bb4, (HD1.out.below hb4).below bb4, hpw, by omega, fun g e => by have := ((ho4.cut (Nat.le_refl _)).1 g e).2; omega, fun k hk g e => by have := ((ho4.cut (Nat.le_refl _)).2 k hk g e).2; omega⟩
    obtain ⟨w5, hw5⟩ : ∃ x : World, x = w4.alloc (.cells #[.slice a4 xss.length c4] 45) := ⟨_, rfl⟩
    rw [← hw5] at HK
    have HW5 := Lib.hid hw5
    have hs5 : w5.heap.size = w4.heap.size + 1 := by rw [hw5]; simp
    clear hw5 bb4 ho4 hb4 hmr HZ HD1 HC1
    go_wp2_with fail
    rw [← HW5.out]
    clear HW5
    refine (pick_any p (L + 100) 14 _ HK.out.cu (by omega) (by omega)).mono ?_
    rintro e w6 ⟨r, rfl, hr0, hr1, hc6, hd6⟩
    have hs6 := hd6.size
    replace HK := Lib.hid (HK.out.drawn hd6 hc6)
    clear hc6 hd6
    by_cases h0 : r = 0
    · subst h0
      have ⟨⟨zm, cm⟩, fm⟩ := HK.out.m
      have ⟨⟨zz, cz⟩, fz⟩ := HK.out.z
      by_cases hl0 : 0 < xss.length
      · have l1 : (0 : Int) < (xss.length : Int) := by omega
        go_wp2_with fail
        refine (pick_any p (L + 102) (xss.length : Int) _ HK.out.cu (by omega) (by have := HMR.out.1; omega)).mono ?_
        rintro e w7 ⟨q, rfl, hq0, hq1, hc7, hd7⟩
        obtain ⟨i, rfl⟩ := Int.eq_ofNat_of_zero_le hq0
        have hi : i < xss.length := by omega
        have hs7 := hd7.size
        replace HK := Lib.hid (HK.out.drawn hd7 hc7)
        clear hc7 hd7 cm cz zm zz fm fz
        have hxl := HMR.out.1
        have HRL := Lib.hid (HMR.out.2 i hi)
        obtain ⟨g, ea, hg0, hg1, hcg, _⟩ := HK.out.r.outer hi
        subst ea
        obtain ⟨gr0, cr0, ev0, _⟩ := HK.out.put hi (j := 0) (by rw [HRL.out]; omega)
        rw [ev0, HRL.out] at hcg
        have HE0 := Lib.hid ev0
        clear ev0
        have hii : (i : Int) < (xss.length : Int) := by omega
        have hpw7 : p < w7.heap.size := HK.out.cu.lt
        have ⟨⟨zm, cm⟩, fm⟩ := HK.out.m
        go_wp2_with fail
        go_region_held3 (fun w' => w'.cell? ⟨w4.heap.size, 0, none⟩ = some (.slice (some ⟨g, 0, none⟩) xss.length c4) ∧ w'.cell? ⟨g, i, none⟩ = some (.slice (some ⟨gr0, 0, none⟩) xss.length cr0))
          (first | exact ⟨(by have h := (HP9.out (nth [-1, 0, 1, 12, 13] kk)).m.1.2; rw [setM_len] at h; exact h), mat_row (HP9.out (nth [-1, 0, 1, 12, 13] kk)) (by rw [setM_len]; exact hi) (by rw [setM_rlen hi]; exact HE0.out) (by rw [setM_rlen hi]; exact HRL.out)⟩ | exact ⟨KB.out.m.1.2, mat_row KB.out hi HE0.out HRL.out⟩ | exact ⟨KA.out.m.1.2, mat_row KA.out hi HE0.out HRL.out⟩ | go_keep)
          (first
            | (have _g := HP1; go_at_call 81; refine (among_any p (L + 106) (some ⟨wa.heap.size, 0, none⟩) [-1, 0, 1, 12, 13] 5 5 _ (KA.out.below ((Below.refl _ _).alloc (Nat.le_refl _) (.cells #[.int .i64 (-1), .int .i64 0, .int .i64 1, .int .i64 12, .int .i64 13] 3))).cu (by omega) (rd_lit5 wa (-1) 0 1 12 13 _) rfl (by omega) (by omega) (fun b off e => (by simp only [Option.some.injEq, Addr.mk.injEq] at e; omega))).mono ?_; rintro e wb ⟨kk, hkk, rfl, hcb, hdb⟩; have KB := Lib.hid ((KA.out.below ((Below.refl _ _).alloc (Nat.le_refl _) (.cells #[.int .i64 (-1), .int .i64 0, .int .i64 1, .int .i64 12, .int .i64 13] 3))).drawn hdb hcb); obtain ⟨gr, cr, ev, ⟨zz9, cib⟩, fib, HPb⟩ := KB.out.put hi hjr; rw [HE0.out] at ev; simp only [Value.slice.injEq, Option.some.injEq, Addr.mk.injEq, and_true, true_and] at ev; obtain ⟨rfl, rfl⟩ := ev; have HP9 := Lib.hid HPb; have vB := KB.out.m; have ⟨⟨zB, cB⟩, fB⟩ := vB; clear hcb hdb HPb)
            | (have _g := HP2; go_at_call 81; refine (among_any p (L + 106) (some ⟨w7.heap.size, 0, none⟩) [-1, 0, 1, 12, 13] 5 5 _ KA.out.cu (by omega) HP2.out rfl (by omega) (by omega) (fun b off e => (by simp only [Option.some.injEq, Addr.mk.injEq] at e; omega))).mono ?_; rintro e wb ⟨kk, hkk, rfl, hcb, hdb⟩; have KB := Lib.hid (KA.out.drawn hdb hcb); obtain ⟨gr, cr, ev, ⟨zz9, cib⟩, fib, HPb⟩ := KB.out.put hi hjr; rw [HE0.out] at ev; simp only [Value.slice.injEq, Option.some.injEq, Addr.mk.injEq, and_true, true_and] at ev; obtain ⟨rfl, rfl⟩ := ev; have HP9 := Lib.hid HPb; have vB := KB.out.m; have ⟨⟨zB, cB⟩, fB⟩ := vB; clear hcb hdb HPb)
            | (have _g := HP2; go_at_call 81; refine (among_any p (L + 106) (some ⟨w7.heap.size, 0, none⟩) [-1, 0, 1, 12, 13] 5 5 _ (KA.out.below (Joins.below_draws _ _ _)).cu (by omega) (HP2.out.below (Joins.below_draws _ _ _)) rfl (by omega) (by omega) (fun b off e => (by simp only [Option.some.injEq, Addr.mk.injEq] at e; omega))).mono ?_; rintro e wb ⟨kk, hkk, rfl, hcb, hdb⟩; have KB := Lib.hid ((KA.out.below (Joins.below_draws _ _ _)).drawn hdb hcb); obtain ⟨gr, cr, ev, ⟨zz9, cib⟩, fib, HPb⟩ := KB.out.put hi hjr; rw [HE0.out] at ev; simp only [Value.slice.injEq, Option.some.injEq, Addr.mk.injEq, and_true, true_and] at ev; obtain ⟨rfl, rfl⟩ := ev; have HP9 := Lib.hid HPb; have vB := KB.out.m; have ⟨⟨zB, cB⟩, fB⟩ := vB; clear hcb hdb HPb)
            | (go_at_call 62; refine (pick_any p (L + 104) (xss.length : Int) _ (HK.out.below (Joins.below_draws _ _ _)).cu (by omega) (by omega)).mono ?_; rintro e wa ⟨q, rfl, hq0, hq1, hca, hda⟩; obtain ⟨j, rfl⟩ := Int.eq_ofNat_of_zero_le hq0; have hjl : j < xss.length := (by omega); have hjr : j < (rowL xss i).length := (by rw [HRL.out]; exact hjl); have hjk : (j : Int) < (xss.length : Int) := (by omega); have KA := Lib.hid ((HK.out.below (Joins.below_draws _ _ _)).drawn hda hca); have hsa : w7.heap.size ≤ wa.heap.size := (by have := hda.size; simp at this; omega); have HP1 := Lib.hid hsa; clear hca hda hq0 hq1)
            | (go_at_call 62; refine (pick_any p (L + 104) (xss.length : Int) _ (HK.out.below ((Below.refl w7.heap.size w7).alloc (Nat.le_refl _) (.cells #[.int .i64 (-1), .int .i64 0, .int .i64 1, .int .i64 12, .int .i64 13] 3))).cu (by omega) (by omega)).mono ?_; rintro e wa ⟨q, rfl, hq0, hq1, hca, hda⟩; obtain ⟨j, rfl⟩ := Int.eq_ofNat_of_zero_le hq0; have hjl : j < xss.length := (by omega); have hjr : j < (rowL xss i).length := (by rw [HRL.out]; exact hjl); have hjk : (j : Int) < (xss.length : Int) := (by omega); have KA := Lib.hid ((HK.out.below ((Below.refl w7.heap.size w7).alloc (Nat.le_refl _) (.cells #[.int .i64 (-1), .int .i64 0, .int .i64 1, .int .i64 12, .int .i64 13] 3))).drawn hda hca); have hsa : w7.heap.size ≤ wa.heap.size := (by have := hda.size; simp at this; omega); have HP2 := Lib.hid ((rd_lit5 w7 (-1) 0 1 12 13 3).drawn hda (fun b off e => (by simp only [Option.some.injEq, Addr.mk.injEq] at e; omega))); clear hca hda hq0 hq1)
            | (go_at_call 62; refine (pick_any p (L + 104) (xss.length : Int) _ (HK.out.below (((Below.refl w7.heap.size w7).alloc (Nat.le_refl _) (.cells #[.int .i64 (-1), .int .i64 0, .int .i64 1, .int .i64 12, .int .i64 13] 3)).trans (Joins.below_draws _ _ _))).cu (by omega) (by omega)).mono ?_; rintro e wa ⟨q, rfl, hq0, hq1, hca, hda⟩; obtain ⟨j, rfl⟩ := Int.eq_ofNat_of_zero_le hq0; have hjl : j < xss.length := (by omega); have hjr : j < (rowL xss i).length := (by rw [HRL.out]; exact hjl); have hjk : (j : Int) < (xss.length : Int) := (by omega); have KA := Lib.hid ((HK.out.below (((Below.refl w7.heap.size w7).alloc (Nat.le_refl _) (.cells #[.int .i64 (-1), .int .i64 0, .int .i64 1, .int .i64 12, .int .i64 13] 3)).trans (Joins.below_draws _ _ _))).drawn hda hca); have hsa : w7.heap.size ≤ wa.heap.size := (by have := hda.size; simp at this; omega); have HP2 := Lib.hid (((rd_lit5 w7 (-1) 0 1 12 13 3).below (Joins.below_draws _ _ _)).drawn hda (fun b off e => (by simp only [Option.some.injEq, Addr.mk.injEq] at e; omega))); clear hca hda hq0 hq1))
        all_goals
          have HP := HP9.out (nth [-1, 0, 1, 12, 13] kk)
          have ⟨⟨zm9, cm9⟩, fm9⟩ := HP.m
          have ⟨⟨zz9, cz9⟩, fz9⟩ := HP.z
          rw [setM_len] at cm9
          have R3 := HP.done (by rw [setM_len]; omega) (fun k hk => by rw [setM_rlen hi]; rw [setM_len] at hk; have := HMR.out.2 k hk; omega)
          rw [setM_len] at R3
          have HR3 := Lib.hid R3
          clear HP R3 KB cm
          generalize (nth [-1, 0, 1, 12, 13] kk) = zv at *
          go_wp2_with fail
          have R3 := HR3.out
          refine bodyPost_ret (v := .agg #[.slice (some ⟨g, 0, none⟩) xss.length c4]) (by have ⟨⟨⟨_, q1⟩, _⟩, _⟩ := R3; simp [results, Tryz.results48, go_sem, q1]) rfl ?_
          obtain ⟨_, a', c', xss', e', g1, g2, g3, g4, g5⟩ := R3
          exact ⟨a', c', xss', e', g1, g2, g3, g4.mono (by omega), g5⟩
      · have l1 : ¬ (0 : Int) < (xss.length : Int) := by omega
        go_wp2_with fail
        have R3 := (HK.out.done (by have := HMR.out.1; omega) (fun k hk => by have h8 := HMR.out.1; have := HMR.out.2 k hk; omega))
        refine bodyPost_ret (v := .agg #[.slice a4 xss.length c4]) (by have ⟨⟨⟨_, q1⟩, _⟩, _⟩ := R3; simp [results, Tryz.results48, go_sem, q1]) rfl ?_
        obtain ⟨_, a', c', xss', e', g1, g2, g3, g4, g5⟩ := R3
        exact ⟨a', c', xss', e', g1, g2, g3, g4.mono (by omega), g5⟩
    · have z0 : (r == 0) = false := by simpa using h0
      by_cases h1 : r = 1
      · subst h1
        have ⟨⟨zm, cm⟩, fm⟩ := HK.out.m
        have ⟨⟨zz, cz⟩, fz⟩ := HK.out.z
        have hxl := HMR.out.1
        have hrow : OwnI (w6.alloc (.cells #[.int .i64 1] 3)) w6.heap.size (.slice (some ⟨w6.heap.size, 0, none⟩) 1 1) [1] := OwnI.new w6 [1] (by simp)
        have bb6 : Below w6.heap.size w6 (w6.alloc (.cells #[.int .i64 1] 3)) := (by repeat (first | exact Below.refl _ _ | assumption | refine Below.alloc ?_ (by first | exact Nat.le_refl _ | (simp only [World.size_alloc, World.size_setCell, World.size_drew]; omega) | omega) _ | refine Below.setCell ?_ (by first | exact Nat.le_refl _ | (simp only [World.size_alloc, World.size_setCell, World.size_drew]; omega) | omega) _ | refine Below.drew ?_))
        have hro := HK.out.r.below bb6 (Nat.le_refl _)
        have hcut := HK.out.r.cut (Nat.le_refl w6.heap.size)
        have hbm := HK.out.m.1.1
        have hsz : (w6.alloc (.cells #[.int .i64 1] 3)).heap.size = w6.heap.size + 1 := by simp
        have HK6 := Lib.hid (HK.out.below bb6)
        go_wp2_with (at_builtin; refine push_rowAt (v := .slice a4 xss.length c4) (vl := vl) (xss := xss) (B := w.heap.size + 1) (C := w6.heap.size) (ar := some ⟨w6.heap.size, 0, none⟩) (n := 1) (cp := 1) (r := [1]) (wr := w6.alloc (.cells #[.int .i64 1] 3)) rfl _ _ rfl rfl hro hrow (w6.heap.size + 1) hsz rfl (by omega) (by omega) (by simp) (fun c e => (hcut.1 c e).2) (fun k hk c e => (hcut.2 k hk c e).2) ?_; intro v7 w7 hr7 hg7 hat7; revert hat7)
        intro hat7
        obtain ⟨a7, c7, e7⟩ := hr7.o.form
        subst e7
        have hl7 : (xss ++ [[1]]).length = xss.length + 1 := by simp
        have hnb := HK6.out.nb
        have hvl := HK6.out.r.o.vlen
        have hlo := HK6.out.r.lo (p := w.heap.size) (by omega)
        have hm7 := HK6.out.m.kept hg7 (fun e => hnb.1 _ e.symm rfl)
        have hz7 := HK6.out.z.kept hg7 (fun e => hlo.1 _ e.symm rfl)
        have hc7 := HK6.out.cu.kept hg7 (fun g e => by have := ((HK6.out.r.cut (Nat.le_refl _)).1 g e).1; omega)
        have hd7 := HK6.out.d.grown hg7 (fun c e => by have := ((HK6.out.r.cut (Nat.le_refl _)).1 c e).1; omega)
        have hr8 : ∀ x, RowsP (w7.setCell ⟨w4.heap.size, 0, none⟩ x) (w.heap.size + 1) (.slice a7 (xss ++ [[1]]).length c7) (vl ++ [.slice (some ⟨w6.heap.size, 0, none⟩) 1 1]) (xss ++ [[1]]) := fun x => hr7.kept (grown_set w7 ⟨w4.heap.size, 0, none⟩ x) (fun c e e2 => by
            simp only [Option.some.injEq] at e2
            rcases hat7 with h | h
            · rw [h] at e; exact hnb.1 c e e2.symm
            · rw [h] at e; simp only [Option.some.injEq] at e; omega) (fun k hk c e e2 => by
            simp only [Option.some.injEq] at e2
            by_cases hkl : k < xss.length
            · have e3 : valAt (vl ++ [.slice (some ⟨w6.heap.size, 0, none⟩) 1 1]) k = valAt vl k := by simp [valAt, List.getD_eq_getElem?_getD, List.getElem?_append_left (show k < vl.length by omega)]
              rw [e3] at e
              exact hnb.2 k hkl c e e2.symm
            · have e3 : valAt (vl ++ [.slice (some ⟨w6.heap.size, 0, none⟩) 1 1]) k = .slice (some ⟨w6.heap.size, 0, none⟩) 1 1 := by simp [valAt, List.getD_eq_getElem?_getD, List.getElem?_append_right (show vl.length ≤ k by omega), show k - vl.length = 0 by omega]
              rw [e3] at e
              simp only [Value.ownBlock, Option.some.injEq] at e
              omega)
        have hrl : ∀ k, k < (xss ++ [[1]]).length → (rowL (xss ++ [[1]]) k).length ≤ 20 := fun k hk => by
          by_cases hkl : k < xss.length
          · have e3 : rowL (xss ++ [[1]]) k = rowL xss k := by simp [rowL, List.getD_eq_getElem?_getD, List.getElem?_append_left hkl]
            rw [e3]; have := HMR.out.2 k hkl; omega
          · have e3 : rowL (xss ++ [[1]]) k = [1] := by simp [rowL, List.getD_eq_getElem?_getD, List.getElem?_append_right (show xss.length ≤ k by omega), show k - xss.length = 0 by omega]
            rw [e3]; simp
        have R3 := mat_end (a := a7) (c := c7) (xss := xss ++ [[1]]) (hz7.other (p := ⟨w4.heap.size, 0, none⟩) (.slice a7 (xss ++ [[1]]).length c7) (show w.heap.size ≠ w4.heap.size by omega)) ⟨a7, c7, vl ++ [.slice (some ⟨w6.heap.size, 0, none⟩) 1 1], xss ++ [[1]], (hr8 (.slice a7 (xss ++ [[1]]).length c7)).setBelow (p := ⟨w.heap.size, 0, none⟩) (show w.heap.size < w.heap.size + 1 by omega) _, .inl ⟨rfl, rfl⟩⟩ (by omega) (tot_fine hrl (by omega)) (hc7.set ⟨w4.heap.size, 0, none⟩ _ (show p < w4.heap.size by omega)) (hd7.set ⟨w4.heap.size, 0, none⟩ _ (show w.heap.size ≤ w4.heap.size by omega)) hpw
        have HR3 := Lib.hid R3
        rw [hl7] at HR3
        have ⟨⟨zm7, cm7⟩, fm7⟩ := hm7
        have ⟨⟨zz7, cz7⟩, fz7⟩ := hz7
        have ⟨⟨zz8, cz8⟩, fz8⟩ := hz7.other (p := ⟨w4.heap.size, 0, none⟩) (.slice a7 (xss.length + 1) c7) (show w.heap.size ≠ w4.heap.size by omega)
        clear R3 hrl hr8 hm7 hz7 hc7 hd7 hnb hlo hg7 hat7 hr7 hro hrow hcut cm cz zm zz fm fz
        go_wp2_with fail
        have R3 := HR3.out
        refine bodyPost_ret (v := .agg #[.slice a7 (xss.length + 1) c7]) (by have ⟨⟨⟨_, q1⟩, _⟩, _⟩ := R3; simp [results, Tryz.results48, go_sem, q1]) rfl ?_
        obtain ⟨_, a', c', xss', e', g1, g2, g3, g4, g5⟩ := R3
        exact ⟨a', c', xss', e', g1, g2, g3, g4.mono (by omega), g5⟩
      · have z1 : (r == 1) = false := by simpa using h1
        by_cases h2 : r = 2
        · subst h2
          have ⟨⟨zm, cm⟩, fm⟩ := HK.out.m
          have ⟨⟨zz, cz⟩, fz⟩ := HK.out.z
          by_cases hl1 : 1 < xss.length
          · have l1 : (1 : Int) < (xss.length : Int) := by omega
            obtain ⟨g, ea, hg0, hg1, _, _⟩ := HK.out.r.outer (k := 0) (by omega)
            subst ea
            have hcp := rows_cap HK.out.r
            have hxl := HMR.out.1
            have hlen : (xss.drop 1).length = xss.length - 1 := by simp
            go_wp2_with fail
            have hZ2 := HK.out.z.other (p := ⟨w4.heap.size, 0, none⟩) (.slice (some ⟨g, 1, none⟩) (xss.length - 1) (c4 - 1)) (show w.heap.size ≠ w4.heap.size by omega)
            have hC2 := HK.out.cu.set ⟨w4.heap.size, 0, none⟩ (.slice (some ⟨g, 1, none⟩) (xss.length - 1) (c4 - 1)) (show p < w4.heap.size by omega)
            have hD2 := HK.out.d.set ⟨w4.heap.size, 0, none⟩ (.slice (some ⟨g, 1, none⟩) (xss.length - 1) (c4 - 1)) (show w.heap.size ≤ w4.heap.size by omega)
            have hbx := HK.out.box (.slice (some ⟨g, 1, none⟩) (xss.length - 1) (c4 - 1))
            have R3 := mat_end (a := some ⟨g, 1, none⟩) (c := c4 - 1) (xss := xss.drop 1) hZ2 ⟨some ⟨g, 0, none⟩, c4, vl, xss, hbx.setBelow (p := ⟨w.heap.size, 0, none⟩) (show w.heap.size < w.heap.size + 1 by omega) _, .inr ⟨g, rfl, rfl, rfl⟩⟩ (by omega) (tot_fine (fun k hk => by have := HMR.out.2 (k+1) (by omega); have h9 : rowL (xss.drop 1) k = rowL xss (k + 1) := (by simp [rowL, Nat.add_comm 1 k]); rw [h9]; omega) (by omega)) hC2 hD2 hpw
            rw [hlen] at R3
            refine bodyPost_ret (v := .agg #[.slice (some ⟨g, 1, none⟩) (xss.length - 1) (c4 - 1)]) (by have ⟨⟨⟨_, q1⟩, _⟩, _⟩ := R3; simp [results, Tryz.results48, go_sem, q1]) rfl ?_
            obtain ⟨_, a', c', xss', e', g1, g2, g3, g4, g5⟩ := R3
            exact ⟨a', c', xss', e', g1, g2, g3, g4.mono (by omega), g5⟩
          · have l1 : ¬ (1 : Int) < (xss.length : Int) := by omega
            go_wp2_with fail
            have R3 := (HK.out.done (by have := HMR.out.1; omega) (fun k hk => by have h8 := HMR.out.1; have := HMR.out.2 k hk; omega))
            refine bodyPost_ret (v := .agg #[.slice a4 xss.length c4]) (by have ⟨⟨⟨_, q1⟩, _⟩, _⟩ := R3; simp [results, Tryz.results48, go_sem, q1]) rfl ?_
            obtain ⟨_, a', c', xss', e', g1, g2, g3, g4, g5⟩ := R3
            exact ⟨a', c', xss', e', g1, g2, g3, g4.mono (by omega), g5⟩
        · have z2 : (r == 2) = false := by simpa using h2
          have ⟨⟨zm, cm⟩, fm⟩ := HK.out.m
          have ⟨⟨zz, cz⟩, fz⟩ := HK.out.z
          go_wp2_with fail
          have R3 := (HK.out.done (by have := HMR.out.1; omega) (fun k hk => by have h8 := HMR.out.1; have := HMR.out.2 k hk; omega))
          refine bodyPost_ret (v := .agg #[.slice a4 xss.length c4]) (by have ⟨⟨⟨_, q1⟩, _⟩, _⟩ := R3; simp [results, Tryz.results48, go_sem, q1]) rfl ?_
          obtain ⟨_, a', c', xss', e', g1, g2, g3, g4, g5⟩ := R3
          exact ⟨a', c', xss', e', g1, g2, g3, g4.mono (by omega), g5⟩

/-- a matrix that a law draws -/
def DrawnM (w : World) (e : Ending) (w' : World) : Prop :=
  ∃ (a : Option Addr) (c : Nat) (xss : List (List Int)), e = .returned (.agg #[.slice a xss.length c]) ∧ RdC w' a xss ∧ xss.length + totS xss xss.length ≤ 1048576 ∧ Below w.heap.size w w'

set_option maxRecDepth 100000 in
theorem drOM_any (a : Option Addr) (n cap : Nat) (w : World) (hR : RdB w a n) (hn : n ≤ 1048576) :
    Calls Tryz.prog 20 #[.slice a n cap] w (DrawnM w) := by
  have ba : Below w.heap.size w (w.alloc (.cells #[.slice none 0 0] 45)) := (by repeat (first | exact Below.refl _ _ | assumption | refine Below.alloc ?_ (by first | exact Nat.le_refl _ | (simp only [World.size_alloc, World.size_setCell, World.size_drew]; omega) | omega) _ | refine Below.setCell ?_ (by first | exact Nat.le_refl _ | (simp only [World.size_alloc, World.size_setCell, World.size_drew]; omega) | omega) _ | refine Below.drew ?_))
  go_enter Tryz.func20, Tryz.ntmps20
  go_wp2_with fail
  have hcur := cur_new (w := w.alloc (.cells #[.slice none 0 0] 45)) (cap := cap) (t := 59) (hR.below ba) hn
  rw [World.size_alloc] at hcur
  refine (matrix_any (w.heap.size + 1) 0 9 _ hcur (by omega) (by omega)).mono ?_
  rintro e w1 ⟨a1, c1, xss, rfl, hx1, hl1, ht1, hc1, hd1⟩
  have b1 : Below (w.heap.size + 1) (w.alloc (.cells #[.slice none 0 0] 45)) w1 := hd1.of_alloc.bel (Nat.le_refl _) (by simp)
  have hz1 : Var1 w1 w.heap.size (.slice none 0 0) := (Var1.new w (.slice none 0 0) 45).below (by simpa using b1)
  have HX1 := Lib.hid ((hx1.kept (grown_set w1 ⟨w.heap.size, 0, none⟩ (.slice a1 xss.length c1)) (by simp; omega)).rdC)
  have HB1 := Lib.hid ((ba.trans (b1.mono (by omega))).setCell (p := ⟨w.heap.size, 0, none⟩) (Nat.le_refl _) (.slice a1 xss.length c1))
  have HZ := Lib.hid (hz1.set (.slice a1 xss.length c1))
  have ⟨⟨zz, cz⟩, fz⟩ := hz1
  clear hx1 hc1 hd1 hcur b1 ba
  go_wp2_with fail
  have R3 := HZ.out
  refine bodyPost_ret (v := .agg #[.slice a1 xss.length c1]) (by have ⟨⟨_, q1⟩, _⟩ := R3; simp [results, Tryz.results20, go_sem, q1]) rfl ?_
  exact ⟨a1, c1, xss, rfl, HX1.out, ht1, HB1.out⟩

theorem pSame_any (a b : Option Addr) (xs ys : List Int) (ca cb : Nat) (w : World) (hx : Rd w a xs) (hy : Rd w b ys) :
    Calls Tryz.prog 19 #[.slice a xs.length ca, .slice b ys.length cb] w fun e w' => e = .returned (.bool (eqL xs ys)) ∧ Below w.heap.size w w' := by
  have hlx := hx.len
  have hly := hy.len
  by_cases hl : xs.length = ys.length
  · have hl' : ((xs.length : Int) != (ys.length : Int)) = false := by simp [hl]
    go_enter Tryz.func19, Tryz.ntmps19
    have HL := Lib.hid hl
    clear hl
    go_wp2_with fail
    go_loopw [13] (fun i wr => ∃ k : Nat, k ≤ xs.length ∧ i = .int .i64 k ∧ xs.take k = ys.take k ∧ Below w.heap.size w wr) (fun i _ => xs.length - (intOf i).toNat)
    case atStart => exact ⟨0, Nat.zero_le _, rfl, rfl, Below.refl _ _⟩
    case round =>
      obtain ⟨k, hk, rfl, htk, hb⟩ := hrel
      have HT := Lib.hid htk
      clear htk
      by_cases hlt : k < xs.length
      · have hlt' : k < ys.length := by rw [← HL.out]; exact hlt
        obtain ⟨b1, o1, rfl, hb1, hc1⟩ := (hx.below hb).cell k hlt
        obtain ⟨b2, o2, rfl, hb2, hc2⟩ := (hy.below hb).cell k hlt'
        have k1 : (k : Int) < (xs.length : Int) := by omega
        have k2 : (k : Int) < (ys.length : Int) := by omega
        by_cases he : nth xs k = nth ys k
        · have he' : (nth xs k != nth ys k) = false := by simp [he]
          have HE := Lib.hid he
          clear he
          go_wp2_with fail
          go_quiet (fail)
          go_wp2_with fail
          go_roundw
          case rel =>
            refine ⟨k + 1, by omega, by go_num, ?_, by exact hb.trans (Joins.below_draws _ _ _)⟩
            rw [List.take_succ_eq_append_getElem hlt, List.take_succ_eq_append_getElem hlt', HT.out, ← nth_get, ← nth_get, HE.out]
          case measure => simp [intOf]; omega
        · have he' : (nth xs k != nth ys k) = true := by simp [he]
          have hne : eqL xs ys = false := by
            simp only [eqL, decide_eq_false_iff_not]
            intro e
            subst e
            exact he rfl
          have HN := Lib.hid hne
          clear he hne
          go_wp2_with fail
          go_quiet (fail)
          go_wp2_with fail
          go_ret
          exact ⟨ret_bool HN.out.symm, hb.trans (Joins.below_draws _ _ _)⟩
      · go_wp2_with fail
        go_ret
        refine ⟨ret_bool ?_, hb⟩
        have h1 := HT.out
        rw [List.take_of_length_le (by omega), List.take_of_length_le (by rw [← HL.out]; omega)] at h1
        simp [eqL, h1]
  · have hl' : ((xs.length : Int) != (ys.length : Int)) = true := by simp; omega
    have hne : eqL xs ys = false := by
      simp only [eqL, decide_eq_false_iff_not]
      intro e
      exact hl (by rw [e])
    have HN := Lib.hid hne
    clear hl hne
    go_enter Tryz.func19, Tryz.ntmps19
    go_wp2_with fail
    go_ret
    exact ⟨ret_bool HN.out.symm, Below.refl _ _⟩

theorem pSameO_any (n m : Int) (a b : Option Addr) (xs ys : List Int) (ca cb : Nat) (w : World) (hx : Rd w a xs) (hy : Rd w b ys) :
    Calls Tryz.prog 13 #[.agg #[.int .i64 n, .slice a xs.length ca], .agg #[.int .i64 m, .slice b ys.length cb]] w fun e w' => e = .returned (.bool (eqO n xs m ys)) ∧ Below w.heap.size w w' := by
  by_cases hn : n = m
  · have hn' : (n == m) = true := by simp [hn]
    have HO : Hid (eqO n xs m ys = eqL xs ys) := by simp [Hid, eqO, hn]
    clear hn
    go_enter Tryz.func13, Tryz.ntmps13
    go_wp2_with fail
    refine (pSame_any _ _ xs ys _ _ _ (hx.below (by repeat (first | exact Below.refl _ _ | assumption | refine Below.alloc ?_ (by first | exact Nat.le_refl _ | (simp only [World.size_alloc, World.size_setCell, World.size_drew]; omega) | omega) _ | refine Below.setCell ?_ (by first | exact Nat.le_refl _ | (simp only [World.size_alloc, World.size_setCell, World.size_drew]; omega) | omega) _ | refine Below.drew ?_))) (hy.below (by repeat (first | exact Below.refl _ _ | assumption | refine Below.alloc ?_ (by first | exact Nat.le_refl _ | (simp only [World.size_alloc, World.size_setCell, World.size_drew]; omega) | omega) _ | refine Below.setCell ?_ (by first | exact Nat.le_refl _ | (simp only [World.size_alloc, World.size_setCell, World.size_drew]; omega) | omega) _ | refine Below.drew ?_)))).mono ?_
    rintro e w1 ⟨rfl, hb⟩
    go_wp2_with fail
    go_ret
    exact ⟨ret_bool HO.out.symm, Below.trans (by repeat (first | exact Below.refl _ _ | assumption | refine Below.alloc ?_ (by first | exact Nat.le_refl _ | (simp only [World.size_alloc, World.size_setCell, World.size_drew]; omega) | omega) _ | refine Below.setCell ?_ (by first | exact Nat.le_refl _ | (simp only [World.size_alloc, World.size_setCell, World.size_drew]; omega) | omega) _ | refine Below.drew ?_)) (hb.mono (by first | (simp only [World.size_alloc, World.size_setCell, World.size_drew]; omega) | omega))⟩
  · have hn' : (n == m) = false := by simp [hn]
    have HO : Hid (eqO n xs m ys = false) := by simp [Hid, eqO, hn]
    clear hn
    go_enter Tryz.func13, Tryz.ntmps13
    go_wp2_with fail
    go_ret
    exact ⟨ret_bool HO.out.symm, (by repeat (first | exact Below.refl _ _ | assumption | refine Below.alloc ?_ (by first | exact Nat.le_refl _ | (simp only [World.size_alloc, World.size_setCell, World.size_drew]; omega) | omega) _ | refine Below.setCell ?_ (by first | exact Nat.le_refl _ | (simp only [World.size_alloc, World.size_setCell, World.size_drew]; omega) | omega) _ | refine Below.drew ?_))⟩

set_option maxRecDepth 100000 in
theorem pSameM_same (a b : Option Addr) (xss : List (List Int)) (ca cb : Nat) (w : World) (hx : RdC w a xss) (hy : RdC w b xss) (hn : xss.length ≤ 1048576) :
    Calls Tryz.prog 26 #[.agg #[.slice a xss.length ca], .agg #[.slice b xss.length cb]] w fun e w' => e = .returned (.bool true) ∧ Below w.heap.size w w' := by
  have b1 : Below w.heap.size w ((w.alloc (.cells #[.slice a xss.length ca] 45)).alloc (.cells #[.slice b xss.length cb] 45)) := (by repeat (first | exact Below.refl _ _ | assumption | refine Below.alloc ?_ (by first | exact Nat.le_refl _ | (simp only [World.size_alloc, World.size_setCell, World.size_drew]; omega) | omega) _ | refine Below.setCell ?_ (by first | exact Nat.le_refl _ | (simp only [World.size_alloc, World.size_setCell, World.size_drew]; omega) | omega) _ | refine Below.drew ?_))
  have HX := Lib.hid (hx.below b1)
  have HY := Lib.hid (hy.below b1)
  have HB := Lib.hid b1
  clear hx hy b1
  go_enter Tryz.func26, Tryz.ntmps26
  go_wp2_with fail
  obtain ⟨w1, hw1⟩ : ∃ x : World, x = (w.alloc (.cells #[.slice a xss.length ca] 45)).alloc (.cells #[.slice b xss.length cb] 45) := ⟨_, rfl⟩
  have hA : w.heap.size < w1.heap.size ∧ w1.cell? ⟨w.heap.size, 0, none⟩ = some (.slice a xss.length ca) := by rw [hw1]; exact ⟨by simp; omega, by simp⟩
  have hB : w.heap.size + 1 < w1.heap.size ∧ w1.cell? ⟨w.heap.size + 1, 0, none⟩ = some (.slice b xss.length cb) := by rw [hw1]; exact ⟨by simp, by simp⟩
  rw [← hw1] at HX HY HB ⊢
  have HA := Lib.hid hA
  have HC := Lib.hid hB
  clear hw1 hA hB
  go_loopw [16] (fun i wr => ∃ k : Nat, k ≤ xss.length ∧ i = .int .i64 k ∧ Below w1.heap.size w1 wr) (fun i _ => xss.length - (intOf i).toNat)
  case atStart => exact ⟨0, Nat.zero_le _, rfl, Below.refl _ _⟩
  case round =>
    obtain ⟨k, hk, rfl, hb⟩ := hrel
    by_cases hlt : k < xss.length
    · have k1 : (k : Int) < (xss.length : Int) := by omega
      have HT := Lib.hid hb
      have cA := (hb.cell (p := ⟨w.heap.size, 0, none⟩) HA.out.1).trans HA.out.2
      have cB := (hb.cell (p := ⟨w.heap.size + 1, 0, none⟩) HC.out.1).trans HC.out.2
      obtain ⟨g1, o1, a1, c1, rfl, hg1, hc1, hr1, hl1⟩ := (HX.out.below hb).row hlt
      obtain ⟨g2, o2, a2, c2, rfl, hg2, hc2, hr2, hl2⟩ := (HY.out.below hb).row hlt
      have HR1 := Lib.hid hr1
      have HR2 := Lib.hid hr2
      generalize rowL xss k = R at *
      have HEQ : Hid (eqL R R = true) := by simp [Hid, eqL]
      have h9a := hb.size
      clear hb hr1 hr2
      go_wp2_with fail
      go_region_held3 (fun w' => w'.cell? ⟨w.heap.size, 0, none⟩ = some (.slice (some ⟨g1, o1, none⟩) xss.length ca) ∧ w'.cell? ⟨w.heap.size + 1, 0, none⟩ = some (.slice (some ⟨g2, o2, none⟩) xss.length cb) ∧ w'.cell? ⟨g1, o1 + k, none⟩ = some (.slice a1 R.length c1) ∧ w'.cell? ⟨g2, o2 + k, none⟩ = some (.slice a2 R.length c2))
        (first | exact ⟨qA, qB, qC, qD⟩ | go_keep)
        (first | (go_at_call 19; refine (pSame_any a1 a2 R R c1 c2 _ (HR1.out.below (Joins.below_draws _ _ _)) (HR2.out.below (Joins.below_draws _ _ _))).mono ?_; rw [HEQ.out]; rintro e w5 ⟨rfl, hb5⟩; have ht5 : Below wr.heap.size wr w5 := (Joins.below_draws _ _ _).trans hb5; have qA := (ht5.cell (p := ⟨w.heap.size, 0, none⟩) (show w.heap.size < wr.heap.size by have := HA.out.1; omega)).trans cA; have qB := (ht5.cell (p := ⟨w.heap.size + 1, 0, none⟩) (show w.heap.size + 1 < wr.heap.size by have := HC.out.1; omega)).trans cB; have qC := (ht5.cell (p := ⟨g1, o1 + k, none⟩) hg1).trans hc1; have qD := (ht5.cell (p := ⟨g2, o2 + k, none⟩) hg2).trans hc2))
      go_wp2_with fail
      go_roundw
      case rel => exact ⟨k + 1, by omega, by go_num, HT.out.trans (ht5.mono HT.out.size)⟩
      case measure => simp [intOf]; omega
    · obtain rfl : k = xss.length := by omega
      go_wp2_with fail
      go_ret
      exact ⟨rfl, HB.out.trans (hb.mono HB.out.size)⟩

/-- are the two inputs together within the bound? -/
theorem big_any (a b : Option Addr) (n m c1 c2 : Nat) (w : World) (hn : n ≤ 9223372036854775807) (hm : m ≤ 9223372036854775807) :
    Calls Tryz.prog 6 #[.slice a n c1, .slice b m c2] w fun e w' => ((e = .returned (.bool true)) ∨ (e = .returned (.bool false) ∧ n ≤ 1048576 ∧ m ≤ 1048576)) ∧ w = w' := by
  by_cases h1 : 1048576 < (n : Int)
  · go_enter Tryz.func6, Tryz.ntmps6
    go_wp2_with fail
    go_ret
    exact ⟨.inl rfl, rfl⟩
  · by_cases h2 : 1048576 - (n : Int) < (m : Int)
    · go_enter Tryz.func6, Tryz.ntmps6
      go_wp2_with fail
      go_ret
      exact ⟨.inl rfl, rfl⟩
    · have h9 : n ≤ 1048576 ∧ m ≤ 1048576 := by omega
      go_enter Tryz.func6, Tryz.ntmps6
      go_wp2_with fail
      go_ret
      first | exact ⟨.inr ⟨rfl, h9.1, h9.2⟩, rfl⟩ | exact ⟨.inr rfl, rfl⟩

def addB (s x : Int) : Bool := decide (0 ≤ x) && decide (s + x ≤ 12)
theorem addB_iff {s x : Int} : addB s x = true ↔ 0 ≤ x ∧ s + x ≤ 12 := by simp [addB]
def addW (b : Nat) (s x : Int) (w : World) : World := if addB s x = true then w.setCell ⟨b, 0, none⟩ (.int .i64 (s + x)) else w
theorem iAdd_any (b : Nat) (s x : Int) (v : Value) (w : World) (hv : Var2 w b (.int .i64 s) v) (h0 : 0 ≤ s ∧ s ≤ 12) :
    Calls Tryz.prog 90 #[.pointer (some ⟨b, 0, none⟩), .int .i64 x] w fun e w' => e = .returned (.bool (addB s x)) ∧ w' = addW b s x w := by
  have ⟨⟨z, c, d⟩, f, g⟩ := hv
  by_cases h1 : x < 0
  · have H : Hid (addB s x = false) := by rw [Hid, ← Bool.not_eq_true, addB_iff]; omega
    go_enter Tryz.func90, Tryz.ntmps90
    go_wp2_with fail
    go_ret
    exact ⟨ret_bool H.out.symm, by rw [addW, H.out]; rfl⟩
  · by_cases h2 : 12 - s < x
    · have H : Hid (addB s x = false) := by rw [Hid, ← Bool.not_eq_true, addB_iff]; omega
      go_enter Tryz.func90, Tryz.ntmps90
      go_wp2_with fail
      go_ret
      exact ⟨ret_bool H.out.symm, by rw [addW, H.out]; rfl⟩
    · have H : Hid (addB s x = true) := addB_iff.2 (by omega)
      go_enter Tryz.func90, Tryz.ntmps90
      go_wp2_with fail
      go_ret
      exact ⟨ret_bool H.out.symm, by rw [addW, H.out]; rfl⟩

theorem infoSum : (Tryz.prog.info? 115).map (fun i => (i.zero, i.size, i.bytes)) = some (some (.agg #[.int .i64 0, .slice none 0 0]), 2, 32) := by kernel_rfl
theorem valAt_end (vl : List Value) (v : Value) : valAt (vl ++ [v]) vl.length = v := by
  simp [valAt]
/-- the cells of the first k rows, each with its sum ahead of it -/
def pcs (xss : List (List Int)) (vl : List Value) : Nat → List Value
  | 0 => []
  | k+1 => pcs xss vl k ++ [.int .i64 (totR (rowL xss k)), valAt vl k]
theorem pcs_len (xss : List (List Int)) (vl : List Value) : ∀ k, (pcs xss vl k).length = k * 2
  | 0 => rfl
  | k+1 => by rw [pcs, List.length_append, pcs_len xss vl k]; simp; omega
theorem pcs_at {xss : List (List Int)} {vl : List Value} {i : Nat} : ∀ {k : Nat}, i < k → (pcs xss vl k)[i * 2]? = some (.int .i64 (totR (rowL xss i))) ∧ (pcs xss vl k)[i * 2 + 1]? = some (valAt vl i)
  | 0, h => by omega
  | k+1, h => by
    have hl := pcs_len xss vl k
    by_cases e : i = k
    · subst e
      rw [pcs, List.getElem?_append_right (by omega), List.getElem?_append_right (by omega), hl]
      refine ⟨?_, ?_⟩
      · rw [Nat.sub_self]; rfl
      · rw [show i * 2 + 1 - i * 2 = 1 by omega]; rfl
    · rw [pcs, List.getElem?_append_left (by omega), List.getElem?_append_left (by omega)]
      exact pcs_at (by omega)
theorem rowL_app {xss yss : List (List Int)} {k : Nat} (h : k < xss.length) : rowL (xss ++ yss) k = rowL xss k := by
  rw [rowL, rowL, List.getD_eq_getElem?_getD, List.getD_eq_getElem?_getD, List.getElem?_append_left h]
theorem rowL_last (xss : List (List Int)) (r : List Int) : rowL (xss ++ [r]) xss.length = r := by
  simp [rowL]
theorem rowL_take {xss : List (List Int)} {j k : Nat} (h : j < k) : rowL (xss.take k) j = rowL xss j := by
  rw [rowL, rowL, List.getD_eq_getElem?_getD, List.getD_eq_getElem?_getD, List.getElem?_take, if_pos h]
theorem take_snocR {xss : List (List Int)} {k : Nat} (h : k < xss.length) : xss.take (k+1) = xss.take k ++ [rowL xss k] := by
  rw [List.take_succ_eq_append_getElem h]
  simp [rowL, h]
theorem pcs_congr {xss yss : List (List Int)} {vl ul : List Value} : ∀ {k : Nat}, (∀ j, j < k → rowL xss j = rowL yss j ∧ valAt vl j = valAt ul j) → pcs xss vl k = pcs yss ul k
  | 0, _ => rfl
  | k+1, h => by rw [pcs, pcs, pcs_congr (fun j hj => h j (by omega)), (h k (by omega)).1, (h k (by omega)).2]
/-- rows with their sums, each row in a block of its own -/
structure SumP (w : World) (B : Nat) (v : Value) (vl : List Value) (xss : List (List Int)) : Prop where
  own : w.ownsRow B 115 2 v xss.length (pcs xss vl xss.length)
  vlen : vl.length = xss.length
  row : ∀ k, k < xss.length → OwnI w B (valAt vl k) (rowL xss k)
  apart : ∀ k, k < xss.length → ∀ c, (valAt vl k).ownBlock = some c → v.ownBlock ≠ some c
  pair : ∀ j k, j < k → k < xss.length → ∀ c, (valAt vl j).ownBlock = some c → (valAt vl k).ownBlock ≠ some c
theorem SumP.nil (w : World) (B : Nat) : SumP w B (.slice none 0 0) [] [] :=
  ⟨World.ownsRow_nil _ _ _ _, rfl, fun k hk => by simp at hk, fun k hk => by simp at hk, fun j k _ hk => by simp at hk⟩
theorem SumP.form {w : World} {B : Nat} {v : Value} {vl : List Value} {xss : List (List Int)} (h : SumP w B v vl xss) : ∃ a cap, v = .slice a xss.length cap := by
  rcases h.own.2 with ⟨rfl, h0⟩ | ⟨g, cap, cur, rfl, _⟩
  · exact ⟨none, 0, by rw [h0]⟩
  · exact ⟨_, _, rfl⟩
theorem SumP.below {w w' : World} {B B' : Nat} {v : Value} {vl : List Value} {xss : List (List Int)} (h : SumP w B v vl xss) (hb : Below B' w w') (hB : w.heap.size ≤ B') : SumP w' B v vl xss :=
  ⟨ownsRow_bel h.own hb hB, h.vlen, fun k hk => (h.row k hk).below hb hB, h.apart, h.pair⟩
theorem SumP.lt {w : World} {B : Nat} {v : Value} {vl : List Value} {xss : List (List Int)} (h : SumP w B v vl xss) : ∀ b, v.ownBlock = some b → B ≤ b ∧ b < w.heap.size := World.ownsRow.lt h.own
theorem SumP.blk {w : World} {B : Nat} {v : Value} {vl : List Value} {xss : List (List Int)} (h : SumP w B v vl xss) : (∀ c, v.ownBlock = some c → c < w.heap.size) ∧ ∀ k, k < xss.length → ∀ c, (valAt vl k).ownBlock = some c → c < w.heap.size :=
  ⟨fun c e => (h.lt c e).2, fun k hk c e => ((h.row k hk).lt c e).2⟩
theorem SumP.mono {w : World} {B B' : Nat} {v : Value} {vl : List Value} {xss : List (List Int)} (h : SumP w B v vl xss) (hB : B' ≤ B) : SumP w B' v vl xss := by
  refine ⟨⟨h.own.1, ?_⟩, h.vlen, fun k hk => (h.row k hk).mono hB, h.apart, h.pair⟩
  rcases h.own.2 with hn | ⟨g, cap, cur, e, hb, rest⟩
  · exact .inl hn
  · exact .inr ⟨g, cap, cur, e, by omega, rest⟩
/-- the cells of a part -/
theorem SumP.at {w : World} {B n cap : Nat} {a : Option Addr} {vl : List Value} {xss : List (List Int)} (h : SumP w B (.slice a n cap) vl xss) {k : Nat} (hk : k < xss.length) : ∃ g, a = some ⟨g, 0, none⟩ ∧ g < w.heap.size ∧ w.cell? ⟨g, k * 2, none⟩ = some (.int .i64 (totR (rowL xss k))) ∧ w.cell? ⟨g, k * 2 + 1, none⟩ = some (valAt vl k) := by
  rcases h.own.2 with ⟨e, h0⟩ | ⟨g, cap3, cur, e, hb, hg, hn, hm, hs, ht⟩
  · omega
  · simp only [Value.slice.injEq] at e
    obtain ⟨rfl, rfl, rfl⟩ := e
    have ⟨h1, h2⟩ := pcs_at (xss := xss) (vl := vl) hk
    exact ⟨g, rfl, (Array.getElem?_eq_some_iff.1 hg).1, by rw [World.ownsRow.cellAt h.own (k*2) (by omega), h1], by rw [World.ownsRow.cellAt h.own (k*2+1) (by omega), h2]⟩
/-- one part more at the end -/
theorem SumP.snoc {w w' : World} {B C : Nat} {v v' : Value} {vl : List Value} {xss : List (List Int)} {u : Value} {r : List Int} (h : SumP w B v vl xss) (hr : OwnI w C u r) (hBC : B ≤ C) (hvC : ∀ c, v.ownBlock = some c → c < C) (hrC : ∀ k, k < xss.length → ∀ c, (valAt vl k).ownBlock = some c → c < C)
    (ho : w'.ownsRow B 115 2 v' (xss.length + 1) (pcs xss vl xss.length ++ [.int .i64 (totR r), u])) (hg : w.grownBy w' v.ownBlock) (hv' : v'.ownBlock = v.ownBlock ∨ ∃ m, w.heap.size ≤ m ∧ v'.ownBlock = some m) : SumP w' B v' (vl ++ [u]) (xss ++ [r]) := by
  have hl := h.vlen
  have e1 : ∀ k, k < xss.length → valAt (vl ++ [u]) k = valAt vl k := fun k hk => by rw [valAt, valAt, List.getD_eq_getElem?_getD, List.getD_eq_getElem?_getD, List.getElem?_append_left (by omega)]
  have e2 : valAt (vl ++ [u]) xss.length = u := by rw [← hl]; exact valAt_end vl u
  have hur := hr.lt
  refine ⟨?_, by simp [hl], fun k hk => ?_, fun k hk c hc hc2 => ?_, fun j k hjk hk c hc => ?_⟩
  · rw [List.length_append, List.length_singleton, pcs, e2, rowL_last, pcs_congr (yss := xss) (ul := vl) (fun j hj => ⟨rowL_app hj, e1 j hj⟩)]
    exact ho
  · rw [List.length_append, List.length_singleton] at hk
    by_cases e : k = xss.length
    · subst e
      rw [e2, rowL_last]
      exact (hr.mono hBC).kept hg (own_ne (fun c h1 h3 => by have := hvC c h3; have := (hur c h1).1; omega))
    · rw [e1 k (by omega), rowL_app (by omega)]
      exact (h.row k (by omega)).kept hg (own_ne (fun c h1 h3 => h.apart k (by omega) c h1 h3))
  · rw [List.length_append, List.length_singleton] at hk
    by_cases e : k = xss.length
    · subst e
      rw [e2] at hc
      have h1 := hur c hc
      rcases hv' with h3 | ⟨m, hm, h3⟩
      · rw [h3] at hc2; have := hvC c hc2; omega
      · rw [h3] at hc2; simp only [Option.some.injEq] at hc2; omega
    · rw [e1 k (by omega)] at hc
      have h1 := ((h.row k (by omega)).lt c hc).2
      rcases hv' with h3 | ⟨m, hm, h3⟩
      · rw [h3] at hc2; exact h.apart k (by omega) c hc hc2
      · rw [h3] at hc2; simp only [Option.some.injEq] at hc2; omega
  · rw [List.length_append, List.length_singleton] at hk
    rw [e1 j (by omega)] at hc
    by_cases e : k = xss.length
    · subst e
      rw [e2]
      intro h3
      have := hrC j (by omega) c hc
      have := (hur c h3).1
      omega
    · rw [e1 k (by omega)]
      exact h.pair j k hjk (by omega) c hc

theorem Var2.set0 {w : World} {b : Nat} {u v : Value} (h : Var2 w b u v) (u' : Value) : Var2 (w.setCell ⟨b, 0, none⟩ u') b u' v := by
  refine ⟨⟨by simpa using h.1.1, ?_, ?_⟩, by simpa using h.2.1, by simpa using h.2.2⟩
  · rw [World.cell?_setCell_same _ _ _ h.1.2.1]
  · rw [World.cell?_setCell_other _ _ _ _ (by simp)]; exact h.1.2.2

def addV (s x : Int) : Int := if addB s x = true then s + x else s
theorem iPut_any (b : Nat) (s x : Int) (v : Value) (ys : List Int) (w : World) (hv : Var2 w b (.int .i64 s) v) (h0 : 0 ≤ s ∧ s ≤ 12) (ho : OwnI w (b+1) v ys) (h63 : ys.length ≤ 1048576) :
    Calls Tryz.prog 135 #[.pointer (some ⟨b, 0, none⟩), .int .i64 x, .int .i64 x] w fun e w' => e = .returned (.bool (addB s x)) ∧ ∃ v', Var2 w' b (.int .i64 (addV s x)) v' ∧ OwnI w' (b+1) v' (ys ++ [x]) ∧ Below b w w' := by
  have ⟨⟨z, c, d⟩, f, g⟩ := hv
  have HV := Lib.hid hv
  obtain ⟨av, cv, rfl⟩ := ho.form
  have HO := Lib.hid ho
  clear hv ho
  go_enter Tryz.func135, Tryz.ntmps135
  go_wp2_with (at_builtin; refine push_at rfl _ _ rfl (z := x) rfl HO.out rfl (by omega) (by omega) ?_)
  intro v3 w3 o3 hg hat
  have hU := HO.out.lt
  have hv3 := HV.out.kept hg (ne_own (fun c e => by have := (hU c e).1; omega))
  have b3 : Below b w w3 := below_of_grown hg (fun c e => by have := (hU c e).1; omega) (by omega)
  have ⟨⟨z3, c3, d3⟩, f3, g3⟩ := hv3
  clear hg hat hU
  obtain ⟨a3, k3, rfl⟩ := o3.form
  rw [show (ys ++ [x]).length = ys.length + 1 by simp] at o3 ⊢
  go_wp2_with fail
  have hv4 := hv3.set1 (.slice a3 (ys.length + 1) k3)
  refine (iAdd_any b s x _ _ hv4 h0).mono ?_
  rintro e w5 ⟨rfl, hw5⟩
  have H : Hid (∃ v', Var2 w5 b (.int .i64 (addV s x)) v' ∧ OwnI w5 (b+1) v' (ys ++ [x]) ∧ Below b w w5) := by
    rw [hw5, addW, addV]
    cases addB s x
    · exact ⟨.slice a3 (ys.length + 1) k3, by simpa using hv4, by simpa using o3.setBelow (show b < b + 1 by omega) _, by simpa using b3.setCell (Nat.le_refl _) _⟩
    · exact ⟨.slice a3 (ys.length + 1) k3, by simpa using hv4.set0 _, by simpa using (o3.setBelow (show b < b + 1 by omega) _).setBelow (show b < b + 1 by omega) _, by simpa using (b3.setCell (Nat.le_refl _) _).setCell (Nat.le_refl _) _⟩
  clear hw5 hv4
  go_wp2_with fail
  go_ret
  exact ⟨rfl, H.out⟩

set_option maxRecDepth 100000 in
theorem iPutS_any (b : Nat) (s x : Int) (v : Value) (vl : List Value) (xss : List (List Int)) (r : List Int) (ra : Option Addr) (rc B C : Nat) (w : World) (hv : Var2 w b (.int .i64 s) v) (h0 : 0 ≤ s ∧ s ≤ 12)
    (hp : SumP w B v vl xss) (hr : OwnI w C (.slice ra r.length rc) r) (hbB : b + 1 ≤ B) (hBC : B ≤ C) (hC : C ≤ w.heap.size) (hvC : ∀ c, v.ownBlock = some c → c < C) (hrC : ∀ k, k < xss.length → ∀ c, (valAt vl k).ownBlock = some c → c < C) (h63 : xss.length ≤ 1048576) :
    Calls Tryz.prog 136 #[.pointer (some ⟨b, 0, none⟩), .agg #[.int .i64 (totR r), .slice ra r.length rc], .int .i64 x] w fun e w' => e = .returned (.bool (addB s x)) ∧ ∃ v', Var2 w' b (.int .i64 (addV s x)) v' ∧ SumP w' B v' (vl ++ [.slice ra r.length rc]) (xss ++ [r]) ∧ Below b w w' := by
  obtain ⟨i0, hi, hz0, hz1, hz2⟩ := info_parts infoSum
  have ⟨⟨z, c, d⟩, f, g⟩ := hv
  have HV := Lib.hid hv
  obtain ⟨av, cv, rfl⟩ := hp.form
  have HP := Lib.hid hp
  have HR := Lib.hid hr
  have HB := Lib.hid hvC
  have HRB := Lib.hid hrC
  have Hown := Lib.hid (ownsRow_bel hp.own (w' := ((w.alloc (.cells #[.int .i64 (totR r), .slice ra r.length rc] 115)).alloc (.cells #[.int .i64 (totR r), .slice ra r.length rc] 115)).drew) ((((Below.refl _ _).alloc (Nat.le_refl _) _).alloc (by simp) _).drew) (Nat.le_refl _))
  have hnews := cell_two_new (w.alloc (.cells #[.int .i64 (totR r), .slice ra r.length rc] 115)) (.int .i64 (totR r)) (.slice ra r.length rc) 115
  simp only [World.size_alloc] at hnews
  have Hnews := Lib.hid hnews
  have hpl := pcs_len xss vl xss.length
  have HPL := Lib.hid hpl
  clear hv hp hr hnews hvC hrC hpl
  obtain ⟨PC, hPC⟩ : ∃ PC, PC = pcs xss vl xss.length := ⟨_, rfl⟩
  have HPC := Lib.hid hPC
  rw [← hPC] at Hown HPL
  clear hPC
  obtain ⟨T, hT⟩ : ∃ T, T = totR r := ⟨_, rfl⟩
  have HT := Lib.hid hT
  rw [← hT] at Hown Hnews ⊢
  clear hT
  go_enter Tryz.func136, Tryz.ntmps136
  go_wp2_with fail
  go_region_law (refine step_append_lies _ (by rfl) _ _ _ (by rfl) B 115 i0 (.agg #[.int .i64 0, .slice none 0 0]) 2 32 Tryz.underlying106 hi hz0 hz1 hz2 rfl (by omega) (.slice av xss.length cv) xss.length PC (by rfl) Hown.out ⟨w.heap.size + 1, 0, none⟩ 1 1 [.int .i64 T, .slice ra r.length rc] (by rfl) (by rfl) Hnews.out (by intro u hu; simp at hu; rcases hu with rfl | rfl <;> rfl) (by omega) (by unfold maxLen; omega) (by omega) (by simp; omega) (w.heap.size + 2) (by simp) ?_; intro gg cap3 w3 hown3 hgrow hat hlt3; have hg2 : w.grownBy w3 (Value.slice av xss.length cv).ownBlock := grown_alloc_set (grown_alloc_set (o := .cells #[.int .i64 T, .slice ra r.length rc] 115) ⟨hgrow.os, hgrow.tape, hgrow.output, hgrow.size, hgrow.block⟩); have hv3 := HV.out.kept hg2 (ne_own (fun c e => by have := (HP.out.lt c e).1; omega)); have ⟨⟨z3, c3, d3⟩, f3, g3⟩ := hv3)
  all_goals
    have hp3 : SumP w3 B (.slice (some ⟨gg, 0, none⟩) (xss.length + 1) cap3) (vl ++ [.slice ra r.length rc]) (xss ++ [r]) := by
      refine HP.out.snoc HR.out hBC HB.out HRB.out ?_ hg2 ?_
      · rw [← HPC.out, ← HT.out]; exact hown3
      · rcases hat with h | h
        · exact .inl (by rw [h]; rfl)
        · exact .inr ⟨gg, by omega, rfl⟩
    have b3 : Below b w w3 := below_of_grown hg2 (fun c e => by have := (HP.out.lt c e).1; omega) (by omega)
    have hv4 := hv3.set1 (.slice (some ⟨gg, 0, none⟩) (xss.length + 1) cap3)
    clear hown3 hgrow hat hg2
    go_wp2_with fail
    refine (iAdd_any b s x _ _ hv4 h0).mono ?_
    rintro e w5 ⟨rfl, hw5⟩
    have hset : ∀ (p : Addr) (u : Value) (w9 : World), p.block = b → SumP w9 B (.slice (some ⟨gg, 0, none⟩) (xss.length + 1) cap3) (vl ++ [.slice ra r.length rc]) (xss ++ [r]) → SumP (w9.setCell p u) B (.slice (some ⟨gg, 0, none⟩) (xss.length + 1) cap3) (vl ++ [.slice ra r.length rc]) (xss ++ [r]) := fun p u w9 e h =>
      ⟨ownsRow_setCell_below h.own (by rw [e]; omega) u, h.vlen, fun k hk => (h.row k hk).setBelow (by rw [e]; omega) u, h.apart, h.pair⟩
    have H : Hid (∃ v', Var2 w5 b (.int .i64 (addV s x)) v' ∧ SumP w5 B v' (vl ++ [.slice ra r.length rc]) (xss ++ [r]) ∧ Below b w w5) := by
      rw [hw5, addW, addV]
      cases addB s x
      · exact ⟨.slice (some ⟨gg, 0, none⟩) (xss.length + 1) cap3, by simpa using hv4, by simpa using hset _ _ _ rfl hp3, by simpa using b3.setCell (Nat.le_refl _) _⟩
      · exact ⟨.slice (some ⟨gg, 0, none⟩) (xss.length + 1) cap3, by simpa using hv4.set0 _, by simpa using hset _ _ _ rfl (hset _ _ _ rfl hp3), by simpa using (b3.setCell (Nat.le_refl _) _).setCell (Nat.le_refl _) _⟩
    clear hw5 hv4 hset hp3
    go_wp2_with fail
    go_ret
    exact ⟨rfl, H.out⟩

theorem add_ok {s x : Int} (h : addB s x = true) : addV s x = s + x := by rw [addV, if_pos h]
/-- the first k rows may be rows -/
def adTo (xss : List (List Int)) (k : Nat) : Prop := ∀ i, i < k → (∀ j, j < (rowL xss i).length → 0 ≤ nth (rowL xss i) j) ∧ 0 < totR (rowL xss i)
theorem ad_no_num {xss : List (List Int)} {k j : Nat} (hk : k < xss.length) (hj : j < (rowL xss k).length) (hpre : ∀ i, i < j → 0 ≤ nth (rowL xss k) i) (h : addB (totI (rowL xss k) j) (nth (rowL xss k) j) = false) : adB xss = false := by
  rw [← Bool.not_eq_true]
  intro h2
  have ⟨h3, h4⟩ := adB_iff.1 h2
  have h5 := (adB_row h2 hk).2
  have h6 := totI_mono (xs := rowL xss k) (j := j + 1) (k := (rowL xss k).length) (by omega) (h3 k hk).1
  rw [totR] at h5
  rw [totI] at h6
  rw [← Bool.not_eq_true, addB_iff] at h
  exact h ⟨(h3 k hk).1 j hj, by omega⟩
theorem ad_no_row {xss : List (List Int)} {k : Nat} (hk : k < xss.length) (h : addB (matS xss k) (totR (rowL xss k)) = false) : adB xss = false := by
  rw [← Bool.not_eq_true]
  intro h2
  have ⟨h3, h4⟩ := adB_iff.1 h2
  have h5 := adB_row h2 hk
  have h6 := matS_mono (xss := xss) (j := k + 1) (k := xss.length) (by omega) (fun i hi => by have := (h3 i hi).2; omega)
  rw [matS] at h6
  rw [← Bool.not_eq_true, addB_iff] at h
  exact h ⟨by omega, by omega⟩
set_option maxRecDepth 100000 in
set_option maxHeartbeats 1000000 in
theorem iAddUp_any (a : Option Addr) (xss : List (List Int)) (cap : Nat) (w : World) (hx : RdS w a xss) (hs : xss.length + totS xss xss.length ≤ 1048576) :
    Calls Tryz.prog 107 #[.slice a xss.length cap] w fun e w' => ∃ s va vn vc, e = .returned (.tuple #[.agg #[.int .i64 s, .slice va vn vc], .bool (adB xss)]) ∧ (adB xss = true → s = matS xss xss.length ∧ ∃ vl, SumP w' w.heap.size (.slice va vn vc) vl xss) ∧ Below w.heap.size w w' := by
  have hlen := hx.len
  have HX := Lib.hid hx
  have HS := Lib.hid hs
  go_enter Tryz.func107, Tryz.ntmps107
  clear hx hs
  go_wp2_with fail
  go_loopw [12] (fun i wr => ∃ (k : Nat) (v : Value) (vl : List Value), k ≤ xss.length ∧ i = .int .i64 k ∧ Hid (adTo xss k) ∧ 0 ≤ matS xss k ∧ matS xss k ≤ 12 ∧ Var2 wr w.heap.size (.int .i64 0) (.slice none 0 0) ∧ Var2 wr (w.heap.size + 1) (.int .i64 (matS xss k)) v ∧ SumP wr (w.heap.size + 2) v vl (xss.take k) ∧ Below w.heap.size w wr) (fun i _ => xss.length - (intOf i).toNat)
  case atStart => exact ⟨0, .slice none 0 0, [], Nat.zero_le _, rfl, fun j hj => by omega, by simp [matS], by simp [matS], (Var2.new w _ _ _).alloc _, by have h := Var2.new (w.alloc (.cells #[.int .i64 0, .slice none 0 0] 108)) (.int .i64 0) (.slice none 0 0) 108; rw [World.size_alloc] at h; exact h, by rw [List.take_zero]; exact SumP.nil _ _, (by repeat (first | exact Below.refl _ _ | assumption | refine Below.alloc ?_ (by first | exact Nat.le_refl _ | (simp only [World.size_alloc, World.size_setCell, World.size_drew]; omega) | omega) _ | refine Below.setCell ?_ (by first | exact Nat.le_refl _ | (simp only [World.size_alloc, World.size_setCell, World.size_drew]; omega) | omega) _ | refine Below.drew ?_))⟩
  case round =>
    obtain ⟨k, v, vl, hk, rfl, HAD, hm0, hm1, hR, hA, hp, hb⟩ := hrel
    have ⟨av, cv, ev⟩ := hp.form
    obtain ⟨LK, hLK⟩ : ∃ LK, LK = (xss.take k).length := ⟨_, rfl⟩
    rw [← hLK] at ev
    subst ev
    clear hLK
    have hbs := hb.size
    have ⟨⟨zR, cR, dR⟩, fR, gR⟩ := hR
    have ⟨⟨zA, cA, dA⟩, fA, gA⟩ := hA
    have HR := Lib.hid hR
    have HA := Lib.hid hA
    have HP := Lib.hid hp
    by_cases hlt : k < xss.length
    · obtain ⟨b, off, a', cap', rfl, hbl, hc, hr⟩ := (HX.out.below hb).row k hlt
      have k1 : (k : Int) < (xss.length : Int) := by omega
      have hrl := hr.len
      have hrt := row_tot (xss := xss) hlt
      have hrow : (rowL xss k).length ≤ 1048576 := by have := HS.out; omega
      have HRD := Lib.hid hr
      have HT : Hid (xss.take (k+1) = xss.take k ++ [rowL xss k]) := take_snocR hlt
      have HTL : Hid ((xss.take k).length = k) := by rw [Hid, List.length_take]; omega
      have HNR : Hid (∀ j, j < (rowL xss k).length → (∀ i, i < j → 0 ≤ nth (rowL xss k) i) → addB (totI (rowL xss k) j) (nth (rowL xss k) j) = false → adB xss = false) := fun j hj => ad_no_num hlt hj
      have HNM : Hid (addB (matS xss k) (totR (rowL xss k)) = false → adB xss = false) := ad_no_row hlt
      have HNZ : Hid (totR (rowL xss k) = 0 → adB xss = false) := fun h => by
        rw [← Bool.not_eq_true]; intro h2
        have := (adB_row h2 hlt).1; omega
      have HMN : Hid (matS xss (k+1) = matS xss k + totR (rowL xss k)) := rfl
      have HGD : Hid ((∀ j, j < (rowL xss k).length → 0 ≤ nth (rowL xss k) j) → 0 < totR (rowL xss k) → adTo xss (k+1)) := fun h1 h2 i hi => by
        by_cases e : i = k
        · rw [e]; exact ⟨h1, h2⟩
        · exact HAD.out i (by omega)
      obtain ⟨R, hR9⟩ : ∃ R, R = rowL xss k := ⟨_, rfl⟩
      rw [← hR9] at hc hrl hrow HRD HT HNR HNM HNZ HMN HGD
      obtain ⟨M, hM9⟩ : ∃ M, M = matS xss k := ⟨_, rfl⟩
      rw [← hM9] at hm0 hm1 HA cA HNM HMN
      clear hr hrt hR9 hM9 hR hA hp HAD
      obtain ⟨W1, hW1⟩ : ∃ x : World, x = wr := ⟨_, rfl⟩
      subst hW1
      go_wp2_with fail
      go_loopw [18] (fun i wr => ∃ (j : Nat) (u : Value), j ≤ R.length ∧ i = .int .i64 j ∧ Hid (∀ i, i < j → 0 ≤ nth R i) ∧ 0 ≤ totI R j ∧ totI R j ≤ 12 ∧ Var2 wr W1.heap.size (.int .i64 (totI R j)) u ∧ OwnI wr (W1.heap.size + 1) u (R.take j) ∧ Below W1.heap.size W1 wr) (fun i _ => R.length - (intOf i).toNat)
      case atStart => exact ⟨0, .slice none 0 0, Nat.zero_le _, rfl, fun j hj => by omega, by simp [totI], by simp [totI], Var2.new W1 _ _ _, by rw [List.take_zero]; exact OwnI.nil _ _, (by repeat (first | exact Below.refl _ _ | assumption | refine Below.alloc ?_ (by first | exact Nat.le_refl _ | (simp only [World.size_alloc, World.size_setCell, World.size_drew]; omega) | omega) _ | refine Below.setCell ?_ (by first | exact Nat.le_refl _ | (simp only [World.size_alloc, World.size_setCell, World.size_drew]; omega) | omega) _ | refine Below.drew ?_))⟩
      case round =>
        obtain ⟨j, u, hj, rfl, HNN, ht0, ht1, hQ, ho, hbq⟩ := hrel
        have hbqs := hbq.size
        have ⟨⟨zQ, cQ, dQ⟩, fQ, gQ⟩ := hQ
        have hR2 := HR.out.below hbq
        have hA2 := HA.out.below hbq
        have ⟨⟨zR2, cR2, dR2⟩, fR2, gR2⟩ := hR2
        have ⟨⟨zA2, cA2, dA2⟩, fA2, gA2⟩ := hA2
        have HR2 := Lib.hid hR2
        have HA2 := Lib.hid hA2
        clear hR2 hA2
        by_cases hlt2 : j < R.length
        · obtain ⟨b2, off2, rfl, hbl2, hc2⟩ := (HRD.out.below hbq).cell j hlt2
          have j1 : (j : Int) < (R.length : Int) := by omega
          have htk : R.take (j+1) = R.take j ++ [nth R j] := by
            rw [List.take_succ_eq_append_getElem hlt2, nth_get _ _ hlt2]
          have HTK := Lib.hid htk
          have hlj : (R.take j).length ≤ 1048576 := by rw [List.length_take]; omega
          have HTI : Hid (totI R (j+1) = totI R j + nth R j) := rfl
          have HNF := Lib.hid (HNR.out j hlt2 HNN.out)
          obtain ⟨Z, hZ⟩ : ∃ Z, Z = nth R j := ⟨_, rfl⟩
          have HZ := Lib.hid hZ
          rw [← hZ] at hc2 HTK HTI HNF
          obtain ⟨S, hS⟩ : ∃ S, S = totI R j := ⟨_, rfl⟩
          rw [← hS] at ht0 ht1 cQ hQ HTI HNF
          have HQ := Lib.hid hQ
          have HO := Lib.hid ho
          have hPut := iPut_any W1.heap.size S Z u (R.take j) wr HQ.out ⟨ht0, ht1⟩ HO.out hlj
          have HPUT := Lib.hid hPut
          clear htk hZ hS hQ ho hPut
          cases had : addB S Z
          · have H := HNF.out had
            have HF := Lib.hid had
            have HH := Lib.hid H
            clear had H
            go_wp2_with fail
            refine HPUT.out.mono ?_
            rintro e w5 ⟨rfl, v5, hv5, ho5, hb5⟩
            rw [HF.out]
            have b5 : Below W1.heap.size W1 w5 := hbq.trans hb5
            have hR5 := HR.out.below b5
            have hA5 := HA.out.below b5
            have ⟨⟨zR5, cR5, dR5⟩, fR5, gR5⟩ := hR5
            have ⟨⟨zA5, cA5, dA5⟩, fA5, gA5⟩ := hA5
            have bw5 := hb.trans (b5.mono hbs)
            clear hv5 ho5 hb5
            go_wp2_with fail
            have hR7 := hR5.set (.int .i64 M) (.slice av LK cv)
            have b7 := (bw5.setCell (p := ⟨w.heap.size, 0, none⟩) (Nat.le_refl _) (.int .i64 M)).setCell (p := ⟨w.heap.size, 1, none⟩) (Nat.le_refl _) (.slice av LK cv)
            refine bodyPost_ret (v := .tuple #[.agg #[.int .i64 M, .slice av LK cv], .bool false]) (by have ⟨⟨_, q1, q2⟩, _, _⟩ := hR7; simp [results, Tryz.results107, go_sem, q1, q2]) rfl ?_
            exact ⟨M, av, LK, cv, by rw [HH.out], (by intro h; rw [HH.out] at h; cases h), b7⟩
          · have hge := addB_iff.1 had
            have HF := Lib.hid had
            have HV := Lib.hid (add_ok had)
            clear had HNF
            go_wp2_with fail
            refine HPUT.out.mono ?_
            rintro e w5 ⟨rfl, v5, hv5, ho5, hb5⟩
            rw [HF.out]
            rw [HV.out] at hv5
            have b5 : Below W1.heap.size W1 w5 := hbq.trans hb5
            go_wp2_with fail
            go_roundw
            case rel =>
              refine ⟨j + 1, v5, by omega, by go_num, fun i hi => ?_, by rw [HTI.out]; omega, by rw [HTI.out]; omega, by rw [HTI.out]; exact hv5, by rw [HTK.out]; exact ho5, b5⟩
              by_cases e : i = j
              · rw [e, ← HZ.out]; omega
              · exact HNN.out i (by omega)
            case measure => simp [intOf]; omega
        · obtain rfl : j = R.length := by omega
          have HTR : Hid (totI R R.length = totR R) := rfl
          rw [HTR.out] at ht0 ht1 cQ hQ
          rw [List.take_length] at ho
          obtain ⟨au, cu, rfl⟩ := ho.form
          have HO := Lib.hid ho
          have HP2 := Lib.hid (HP.out.below hbq (Nat.le_refl _))
          obtain ⟨S, hS⟩ : ∃ S, S = totR R := ⟨_, rfl⟩
          have HSS := Lib.hid hS
          rw [← hS] at ht0 ht1 cQ hQ HNM HNZ HMN HGD
          have HQ := Lib.hid hQ
          have hlk : (xss.take k).length ≤ 1048576 := by rw [HTL.out]; have := HS.out; omega
          have bwq := hb.trans (hbq.mono hbs)
          clear hS hQ ho
          by_cases hz : S = 0
          · have hzz : (S == 0) = true := by simp [hz]
            have HH := Lib.hid (HNZ.out hz)
            clear hz
            go_wp2_with fail
            have hR7 := HR2.out.set (.int .i64 M) (.slice av LK cv)
            have b7 := (bwq.setCell (p := ⟨w.heap.size, 0, none⟩) (Nat.le_refl _) (.int .i64 M)).setCell (p := ⟨w.heap.size, 1, none⟩) (Nat.le_refl _) (.slice av LK cv)
            refine bodyPost_ret (v := .tuple #[.agg #[.int .i64 M, .slice av LK cv], .bool false]) (by have ⟨⟨_, q1, q2⟩, _, _⟩ := hR7; simp [results, Tryz.results107, go_sem, q1, q2]) rfl ?_
            exact ⟨M, av, LK, cv, by rw [HH.out], (by intro h; rw [HH.out] at h; cases h), b7⟩
          · have hzz : (S == 0) = false := by simp [hz]
            have hPut := iPutS_any (w.heap.size + 1) M S (.slice av LK cv) vl (xss.take k) R au cu (w.heap.size + 2) (W1.heap.size + 1) wr HA2.out ⟨hm0, hm1⟩ HP2.out HO.out (by omega) (by omega) (by omega) (fun c e => by have := HP.out.blk.1 c e; omega) (fun i hi c e => by have := HP.out.blk.2 i hi c e; omega) hlk
            rw [← HSS.out] at hPut
            have HPUT := Lib.hid hPut
            clear hPut
            cases had : addB M S
            · have HF := Lib.hid had
              have HH := Lib.hid (HNM.out had)
              clear had hz
              go_wp2_with fail
              refine HPUT.out.mono ?_
              rintro e w5 ⟨rfl, v5, hv5, ho5, hb5⟩
              rw [HF.out]
              have ⟨⟨zA5, cA5, dA5⟩, fA5, gA5⟩ := hv5
              have hR5 : Var2 w5 w.heap.size (.int .i64 0) (.slice none 0 0) := ⟨⟨by have := hb5.size; omega, (hb5.cell (p := ⟨w.heap.size, 0, none⟩) (show w.heap.size < w.heap.size + 1 by omega)).trans cR2, (hb5.cell (p := ⟨w.heap.size, 1, none⟩) (show w.heap.size < w.heap.size + 1 by omega)).trans dR2⟩, (hb5.frozen (p := ⟨w.heap.size, 0, none⟩) (show w.heap.size < w.heap.size + 1 by omega)).trans fR2, (hb5.frozen (p := ⟨w.heap.size, 1, none⟩) (show w.heap.size < w.heap.size + 1 by omega)).trans gR2⟩
              have ⟨⟨zR5, cR5, dR5⟩, fR5, gR5⟩ := hR5
              have bw5 := bwq.trans (hb5.mono (by omega : w.heap.size ≤ w.heap.size + 1))
              obtain ⟨D, hD⟩ : ∃ D, D = addV M S := ⟨_, rfl⟩
              rw [← hD] at cA5
              obtain ⟨a5, c5, e5⟩ := ho5.form
              obtain ⟨L5, hL5⟩ : ∃ L5, L5 = (xss.take k ++ [R]).length := ⟨_, rfl⟩
              rw [← hL5] at e5
              rw [e5] at dA5
              clear hL5 e5
              clear hv5 ho5 hb5 hD
              go_wp2_with fail
              have hR7 := hR5.set (.int .i64 D) (.slice a5 L5 c5)
              have b7 := (bw5.setCell (p := ⟨w.heap.size, 0, none⟩) (Nat.le_refl _) (.int .i64 D)).setCell (p := ⟨w.heap.size, 1, none⟩) (Nat.le_refl _) (.slice a5 L5 c5)
              refine bodyPost_ret (v := .tuple #[.agg #[.int .i64 D, .slice a5 L5 c5], .bool false]) (by have ⟨⟨_, q1, q2⟩, _, _⟩ := hR7; simp [results, Tryz.results107, go_sem, q1, q2]) rfl ?_
              exact ⟨D, a5, L5, c5, by rw [HH.out], (by intro h; rw [HH.out] at h; cases h), b7⟩
            · have hge := addB_iff.1 had
              have HF := Lib.hid had
              have HV := Lib.hid (add_ok had)
              clear had
              go_wp2_with fail
              refine HPUT.out.mono ?_
              rintro e w5 ⟨rfl, v5, hv5, ho5, hb5⟩
              rw [HF.out]
              rw [HV.out] at hv5
              have hR5 : Var2 w5 w.heap.size (.int .i64 0) (.slice none 0 0) := ⟨⟨by have := hb5.size; omega, (hb5.cell (p := ⟨w.heap.size, 0, none⟩) (show w.heap.size < w.heap.size + 1 by omega)).trans cR2, (hb5.cell (p := ⟨w.heap.size, 1, none⟩) (show w.heap.size < w.heap.size + 1 by omega)).trans dR2⟩, (hb5.frozen (p := ⟨w.heap.size, 0, none⟩) (show w.heap.size < w.heap.size + 1 by omega)).trans fR2, (hb5.frozen (p := ⟨w.heap.size, 1, none⟩) (show w.heap.size < w.heap.size + 1 by omega)).trans gR2⟩
              have bw5 := bwq.trans (hb5.mono (by omega : w.heap.size ≤ w.heap.size + 1))
              have HG2 := Lib.hid (HGD.out HNN.out (by omega))
              go_wp2_with fail
              go_roundw
              case rel => exact ⟨k + 1, v5, _, by omega, by go_num, HG2.out, by rw [HMN.out]; omega, by rw [HMN.out]; omega, hR5, by rw [HMN.out]; exact hv5, by rw [HT.out]; exact ho5, bw5⟩
              case measure => simp [intOf]; omega
    · obtain rfl : k = xss.length := by omega
      have HH : Hid (adB xss = true) := adB_iff.2 ⟨HAD.out, hm1⟩
      obtain ⟨M, hM9⟩ : ∃ M, M = matS xss xss.length := ⟨_, rfl⟩
      have HM := Lib.hid hM9
      rw [← hM9] at hm0 hm1 HA cA
      clear hM9 hR hA hp
      go_wp2_with fail
      have hR7 := HR.out.set (.int .i64 M) (.slice av LK cv)
      have b7 := (hb.setCell (p := ⟨w.heap.size, 0, none⟩) (Nat.le_refl _) (.int .i64 M)).setCell (p := ⟨w.heap.size, 1, none⟩) (Nat.le_refl _) (.slice av LK cv)
      refine bodyPost_ret (v := .tuple #[.agg #[.int .i64 M, .slice av LK cv], .bool true]) (by have ⟨⟨_, q1, q2⟩, _, _⟩ := hR7; simp [results, Tryz.results107, go_sem, q1, q2]) rfl ?_
      refine ⟨M, av, LK, cv, by rw [HH.out], fun _ => ⟨HM.out, vl, ?_⟩, b7⟩
      have h := HP.out
      rw [List.take_length] at h
      have hset : ∀ (p : Addr) (u : Value) (w9 : World), p.block = w.heap.size → SumP w9 (w.heap.size + 2) (.slice av LK cv) vl xss → SumP (w9.setCell p u) (w.heap.size + 2) (.slice av LK cv) vl xss := fun p u w9 e h =>
        ⟨ownsRow_setCell_below h.own (by rw [e]; omega) u, h.vlen, fun k hk => (h.row k hk).setBelow (by rw [e]; omega) u, h.apart, h.pair⟩
      exact (hset _ _ _ rfl (hset _ _ _ rfl h)).mono (by omega)

set_option maxRecDepth 100000 in
theorem isUpper_any (a : Option Addr) (xss : List (List Int)) (cap : Nat) (w : World) (hx : RdC w a xss) :
    Calls Tryz.prog 108 #[.agg #[.slice a xss.length cap]] w fun e w' => e = .returned (.bool (upB xss)) ∧ Below w.heap.size w w' := by
  have hlen := hx.rd.len
  have HX := Lib.hid hx
  have b1 : Below w.heap.size w (w.alloc (.cells #[.slice a xss.length cap] 45)) := (by repeat (first | exact Below.refl _ _ | assumption | refine Below.alloc ?_ (by first | exact Nat.le_refl _ | (simp only [World.size_alloc, World.size_setCell, World.size_drew]; omega) | omega) _ | refine Below.setCell ?_ (by first | exact Nat.le_refl _ | (simp only [World.size_alloc, World.size_setCell, World.size_drew]; omega) | omega) _ | refine Below.drew ?_))
  clear hx
  go_enter Tryz.func108, Tryz.ntmps108
  go_wp2_with fail
  go_loop [10] (fun i => ∃ k : Nat, k ≤ xss.length ∧ i = .int .i64 k ∧ Hid (∀ j, j < k → (rowL xss j).length = xss.length ∧ ∀ q, q < j → atM xss j q = 0)) (fun i => xss.length - (intOf i).toNat)
  case atStart => exact ⟨0, Nat.zero_le _, rfl, fun j hj => by omega⟩
  case round =>
    obtain ⟨k, hk, rfl, HA⟩ := hrel
    by_cases hlt : k < xss.length
    · obtain ⟨b, off, a', cap', rfl, hbl, hc, hr, hcp⟩ := (HX.out.below b1).row hlt
      have k1 : (k : Int) < (xss.length : Int) := by omega
      by_cases hq : (rowL xss k).length = xss.length
      · have hqq : (((rowL xss k).length : Int) != (xss.length : Int)) = false := by simp [hq]
        have HQ := Lib.hid hq
        obtain ⟨b2, off2, rfl, hbl2, hc2⟩ := hr.cell 0 (by omega)
        have HR := Lib.hid hr
        have k2 : k ≤ cap' := by omega
        have k3 : k ≤ (rowL xss k).length := by omega
        have hrl := hr.len
        clear hq hr hc2
        go_wp2_with fail
        go_loop [25] (fun i => ∃ q : Nat, q ≤ k ∧ i = .int .i64 q ∧ Hid (∀ j, j < q → atM xss k j = 0)) (fun i => k - (intOf i).toNat)
        case atStart => exact ⟨0, Nat.zero_le _, rfl, fun j hj => by omega⟩
        case round =>
          obtain ⟨q, hq2, rfl, HU⟩ := hrel
          by_cases hlt2 : q < k
          · obtain ⟨b3, off3, e3, hbl3, hc3⟩ := HR.out.cell q (by omega)
            simp only [Option.some.injEq, Addr.mk.injEq, and_true] at e3
            obtain ⟨rfl, rfl⟩ := e3
            have q1 : (q : Int) < (k : Int) := by omega
            by_cases hz : nth (rowL xss k) q = 0
            · have hzz : (nth (rowL xss k) q != 0) = false := by simp [hz]
              have HZ : Hid (atM xss k q = 0) := hz
              clear hz
              go_wp2_with fail
              go_round
              case rel =>
                refine ⟨q + 1, by omega, by go_num, fun j hj => ?_⟩
                by_cases e : j = q
                · rw [e]; exact HZ.out
                · exact HU.out j (by omega)
              case measure => simp [intOf]; omega
            · have hzz : (nth (rowL xss k) q != 0) = true := by simp [hz]
              have H : Hid (upB xss = false) := by
                rw [Hid, ← Bool.not_eq_true, upB_iff]
                intro h
                exact hz ((h k hlt).2 q hlt2)
              clear hz
              go_wp2_with fail
              go_ret
              exact ⟨ret_bool H.out.symm, (by repeat (first | exact Below.refl _ _ | assumption | refine Below.alloc ?_ (by first | exact Nat.le_refl _ | (simp only [World.size_alloc, World.size_setCell, World.size_drew]; omega) | omega) _ | refine Below.setCell ?_ (by first | exact Nat.le_refl _ | (simp only [World.size_alloc, World.size_setCell, World.size_drew]; omega) | omega) _ | refine Below.drew ?_))⟩
          · obtain rfl : q = k := by omega
            go_wp2_with fail
            go_round
            case rel =>
              refine ⟨q + 1, by omega, by go_num, fun j hj => ?_⟩
              by_cases e : j = q
              · rw [e]; exact ⟨HQ.out, HU.out⟩
              · exact HA.out j (by omega)
            case measure => simp [intOf]; omega
      · have hqq : (((rowL xss k).length : Int) != (xss.length : Int)) = true := by simp; omega
        have H : Hid (upB xss = false) := by
          rw [Hid, ← Bool.not_eq_true, upB_iff]
          intro h
          exact hq (h k hlt).1
        clear hq hr
        go_wp2_with fail
        go_ret
        exact ⟨ret_bool H.out.symm, (by repeat (first | exact Below.refl _ _ | assumption | refine Below.alloc ?_ (by first | exact Nat.le_refl _ | (simp only [World.size_alloc, World.size_setCell, World.size_drew]; omega) | omega) _ | refine Below.setCell ?_ (by first | exact Nat.le_refl _ | (simp only [World.size_alloc, World.size_setCell, World.size_drew]; omega) | omega) _ | refine Below.drew ?_))⟩
    · obtain rfl : k = xss.length := by omega
      have H : Hid (upB xss = true) := upB_iff.2 HA.out
      go_wp2_with fail
      go_ret
      exact ⟨ret_bool H.out.symm, (by repeat (first | exact Below.refl _ _ | assumption | refine Below.alloc ?_ (by first | exact Nat.le_refl _ | (simp only [World.size_alloc, World.size_setCell, World.size_drew]; omega) | omega) _ | refine Below.setCell ?_ (by first | exact Nat.le_refl _ | (simp only [World.size_alloc, World.size_setCell, World.size_drew]; omega) | omega) _ | refine Below.drew ?_))⟩

def colF (xss : List (List Int)) (k q : Nat) (a b : Nat) : Int := if b < k ∨ (b = k ∧ a < q) then atM xss b a else 0
theorem colF_end {xss : List (List Int)} {n : Nat} : sqM (colF xss n 0) n n = sqM (fun a b => atM xss b a) n n :=
  sqM_congr (fun a ha b hb => by rw [colF, if_pos (.inl hb)])
theorem colF_next {xss : List (List Int)} {n k : Nat} : sqM (colF xss k n) n n = sqM (colF xss (k+1) 0) n n :=
  sqM_congr (fun a ha b hb => by
    rw [colF, colF]
    by_cases h : b < k + 1
    · rw [if_pos (by omega), if_pos (.inl h)]
    · rw [if_neg (by omega), if_neg (by omega)])
theorem colF_zero {xss : List (List Int)} {n : Nat} : sqM (fun _ _ => 0) n n = sqM (colF xss 0 0) n n :=
  sqM_congr (fun a ha b hb => by rw [colF, if_neg (by omega)])
theorem colF_step {xss : List (List Int)} {n k q : Nat} (hk : k < n) (hq : q < n) : setM (sqM (colF xss k q) n n) q k (atM xss k q) = sqM (colF xss k (q+1)) n n := by
  rw [setM_sq hq hk]
  refine sqM_congr (fun a ha b hb => ?_)
  rw [colF, colF]
  by_cases h : a = q ∧ b = k
  · obtain ⟨rfl, rfl⟩ := h
    rw [if_pos ⟨rfl, rfl⟩, if_pos (.inr ⟨rfl, by omega⟩)]
  · rw [if_neg h]
    by_cases h2 : b < k ∨ (b = k ∧ a < q)
    · rw [if_pos h2, if_pos (by omega)]
    · rw [if_neg h2, if_neg (by omega)]
set_option maxRecDepth 100000 in
set_option maxHeartbeats 1000000 in
theorem columnsOf_any (a : Option Addr) (xss : List (List Int)) (cap : Nat) (w : World) (hx : RdS w a xss) (h12 : xss.length ≤ 12) (hl : ∀ k, k < xss.length → (rowL xss k).length = xss.length) :
    Calls Tryz.prog 109 #[.agg #[.slice a xss.length cap]] w fun e w' => ∃ g vl, e = .returned (.slice (some ⟨g, 0, none⟩) xss.length xss.length) ∧ RowsP w' w.heap.size (.slice (some ⟨g, 0, none⟩) xss.length xss.length) vl (colsL xss) ∧ Below w.heap.size w w' := by
  have hlen := hx.len
  have HX := Lib.hid hx
  have HL := Lib.hid hl
  clear hx hl
  go_enter Tryz.func109, Tryz.ntmps109
  go_wp2_with fail
  refine (zeroRows_any xss.length _ h12).mono ?_
  rintro e w1 ⟨g, vl0, rfl, hro0, hb0⟩
  have b1 : Below w.heap.size w w1 := Below.trans (by repeat (first | exact Below.refl _ _ | assumption | refine Below.alloc ?_ (by first | exact Nat.le_refl _ | (simp only [World.size_alloc, World.size_setCell, World.size_drew]; omega) | omega) _ | refine Below.setCell ?_ (by first | exact Nat.le_refl _ | (simp only [World.size_alloc, World.size_setCell, World.size_drew]; omega) | omega) _ | refine Below.drew ?_)) (hb0.mono (by first | (simp only [World.size_alloc, World.size_setCell, World.size_drew]; omega) | omega))
  have hro1 := hro0.mono (B' := w.heap.size) (by simp)
  rw [colF_zero (xss := xss)] at hro1
  have hc0 := (hb0.cell (p := ⟨w.heap.size, 0, none⟩) (by simp)).trans (show _ = some (Value.slice a xss.length cap) by simp)
  have hs1 := b1.size
  obtain ⟨N, hN⟩ : ∃ N, N = xss.length := ⟨_, rfl⟩
  have HN := Lib.hid hN
  rw [← hN] at hlen h12 hro1 hc0 ⊢
  have HRO := Lib.hid hro1
  clear hro0 hro1 hb0 hN
  go_wp2_with fail
  go_loopw [15] (fun i wr => ∃ (k : Nat) (vl : List Value), k ≤ N ∧ i = .int .i64 k ∧ RowsP wr w.heap.size (.slice (some ⟨g, 0, none⟩) N N) vl (sqM (colF xss k 0) N N) ∧ Below w.heap.size w wr) (fun i _ => N - (intOf i).toNat)
  case atStart => exact ⟨0, _, Nat.zero_le _, rfl, HRO.out, b1⟩
  case round =>
    obtain ⟨k, vl, hk, rfl, hro, hb⟩ := hrel
    have hbs := hb.size
    have HR := Lib.hid hro
    clear hro
    by_cases hlt : k < N
    · obtain ⟨b, off, a', cap', rfl, hbl, hc, hr⟩ := HX.out.row k (by rw [← HN.out]; exact hlt)
      have hrn := HL.out k (by rw [← HN.out]; exact hlt)
      rw [← HN.out] at hrn
      obtain ⟨b2, off2, rfl, hbl2, hc2⟩ := hr.cell 0 (by omega)
      rw [hrn] at hc
      have hc1 := (hb.cell (p := ⟨b, off + k, none⟩) hbl).trans hc
      have HRN := Lib.hid hrn
      have HRD := Lib.hid hr
      have hbl1 : b < wr.heap.size := by omega
      have k1 : (k : Int) < (N : Int) := by omega
      clear hrn hr hc2 hc
      go_wp2_with fail
      go_loopw [22] (fun i wq => ∃ (q : Nat) (vl : List Value), q ≤ N ∧ i = .int .i64 q ∧ RowsP wq w.heap.size (.slice (some ⟨g, 0, none⟩) N N) vl (sqM (colF xss k q) N N) ∧ Below w.heap.size w wq) (fun i _ => N - (intOf i).toNat)
      case atStart => exact ⟨0, _, Nat.zero_le _, rfl, HR.out, hb⟩
      case round =>
        obtain ⟨q, vl2, hq, rfl, hro2, hb2⟩ := hrel
        by_cases hlt2 : q < N
        · obtain ⟨b3, off3, e3, hbl3, hc3⟩ := (HRD.out.below hb2).cell q (by rw [HRN.out]; exact hlt2)
          simp only [Option.some.injEq, Addr.mk.injEq, and_true] at e3
          obtain ⟨rfl, rfl⟩ := e3
          obtain ⟨g4, e4, hg4, hg5, hc4, hf4⟩ := hro2.outer (k := q) (by rw [sqM_len]; exact hlt2)
          simp only [Option.some.injEq, Addr.mk.injEq, and_true] at e4
          subst e4
          obtain ⟨g6, c6, e6, hg6, hg7, hc6, hf6, hnew⟩ := hro2.num (i := q) (j := k) (by rw [sqM_len]; exact hlt2) (by rw [sqM_rlen hlt2]; exact hlt)
          have hn2 := hnew (atM xss k q)
          rw [colF_step hlt hlt2] at hn2
          rw [e6, sqM_rlen hlt2] at hc4
          have HN2 := Lib.hid hn2
          have q1 : (q : Int) < (N : Int) := by omega
          have hat : nth (rowL xss k) q = atM xss k q := rfl
          rw [hat] at hc3
          have b7 := hb2.setCell (p := ⟨g6, k, none⟩) hg6 (.int .i64 (atM xss k q))
          clear hro2 hnew hn2 hat e6
          go_wp2_with fail
          go_roundw
          case rel => exact ⟨q + 1, vl2, by omega, by go_num, HN2.out, b7⟩
          case measure => simp [intOf]; omega
        · obtain rfl : q = N := by omega
          rw [colF_next] at hro2
          go_wp2_with fail
          go_roundw
          case rel => exact ⟨k + 1, _, by omega, by go_num, hro2, hb2⟩
          case measure => simp [intOf]; omega
    · obtain rfl : k = N := by omega
      have HR2 := HR.out
      rw [colF_end] at HR2
      have HE : Hid (colsL xss = sqM (fun a b => atM xss b a) k k) := by rw [Hid, colsL_sq, ← HN.out]
      have HR3 := Lib.hid HR2
      clear HR2
      go_wp2_with fail
      go_ret
      exact ⟨g, vl, by rw [← HN.out]; rfl, by rw [HE.out, ← HN.out]; exact HR3.out, hb⟩

theorem totS_sq {f : Nat → Nat → Int} {n m : Nat} : ∀ {k : Nat}, k ≤ n → totS (sqM f n m) k = k * m
  | 0, _ => by simp [totS]
  | k+1, h => by rw [totS, totS_sq (by omega), sqM_rlen (by omega), Nat.succ_mul]
theorem sq_small {f : Nat → Nat → Int} {n : Nat} (h : n ≤ 13) : (sqM f n n).length + totS (sqM f n n) (sqM f n n).length ≤ 1048576 := by
  rw [sqM_len, totS_sq (Nat.le_refl _)]
  have := Nat.mul_le_mul h h
  omega
set_option maxRecDepth 100000 in
set_option maxHeartbeats 1000000 in
theorem rowsOf_any (a : Option Addr) (xss : List (List Int)) (cap : Nat) (w : World) (hx : RdC w a xss) (hs : xss.length + totS xss xss.length ≤ 1048576) :
    Calls Tryz.prog 82 #[.agg #[.slice a xss.length cap]] w fun e w' => ∃ s va vn vc, e = .returned (.tuple #[.agg #[.int .i64 s, .slice va vn vc], .bool (mxB xss)]) ∧ (mxB xss = true → s = matS xss xss.length ∧ ∃ vl, SumP w' w.heap.size (.slice va vn vc) vl xss) ∧ Below w.heap.size w w' := by
  have hlen := hx.rd.len
  have HX := Lib.hid hx
  have HS := Lib.hid hs
  clear hx hs
  go_enter Tryz.func82, Tryz.ntmps82
  obtain ⟨W0, hW0⟩ : ∃ x : World, x = (w.alloc (.cells #[.slice a xss.length cap] 45)).alloc (.cells #[.int .i64 0, .slice none 0 0] 108) := ⟨_, rfl⟩
  have HW0 := Lib.hid hW0
  have b0 : Below w.heap.size w W0 := by rw [hW0]; exact (by repeat (first | exact Below.refl _ _ | assumption | refine Below.alloc ?_ (by first | exact Nat.le_refl _ | (simp only [World.size_alloc, World.size_setCell, World.size_drew]; omega) | omega) _ | refine Below.setCell ?_ (by first | exact Nat.le_refl _ | (simp only [World.size_alloc, World.size_setCell, World.size_drew]; omega) | omega) _ | refine Below.drew ?_))
  have c0 : W0.cell? ⟨w.heap.size, 0, none⟩ = some (.slice a xss.length cap) := by rw [hW0]; simp
  have hR0 : Var2 W0 (w.heap.size + 1) (.int .i64 0) (.slice none 0 0) := by
    have h := Var2.new (w.alloc (.cells #[.slice a xss.length cap] 45)) (.int .i64 0) (.slice none 0 0) 108
    rw [World.size_alloc] at h
    rw [hW0]; exact h
  have hz0 : w.heap.size + 2 = W0.heap.size := by rw [hW0]; simp
  have HCALL := Lib.hid (iAddUp_any a xss cap W0 (HX.out.below b0).rd HS.out)
  rw [hW0] at HCALL
  clear hW0
  go_wp2_with fail
  refine HCALL.out.mono ?_
  rintro e w1 ⟨s, va, vn, vc, rfl, hok, hb1⟩
  rw [← HW0.out] at hok hb1
  have b1 : Below w.heap.size w w1 := b0.trans (hb1.mono (by omega))
  have c1 := (hb1.cell (p := ⟨w.heap.size, 0, none⟩) (show w.heap.size < W0.heap.size by omega)).trans c0
  have hR1 := hR0.below hb1
  have hs1 := hb1.size
  clear hb1 b0 c0 hR0 HCALL HW0
  obtain ⟨W2, hW2⟩ : ∃ x : World, x = w1.alloc (.cells #[.int .i64 s, .slice va vn vc] 108) := ⟨_, rfl⟩
  have HW2 := Lib.hid hW2
  have bb2 : Below w1.heap.size w1 W2 := by rw [hW2]; exact (by repeat (first | exact Below.refl _ _ | assumption | refine Below.alloc ?_ (by first | exact Nat.le_refl _ | (simp only [World.size_alloc, World.size_setCell, World.size_drew]; omega) | omega) _ | refine Below.setCell ?_ (by first | exact Nat.le_refl _ | (simp only [World.size_alloc, World.size_setCell, World.size_drew]; omega) | omega) _ | refine Below.drew ?_))
  have b2 : Below w.heap.size w W2 := b1.trans (bb2.mono b1.size)
  have hA2 : Box2 W2 w1.heap.size (.int .i64 s) (.slice va vn vc) := by rw [hW2]; exact Box2.new _ _ _ _
  have hR2 := hR1.below bb2
  have c2 := (bb2.cell (p := ⟨w.heap.size, 0, none⟩) (show w.heap.size < w1.heap.size by omega)).trans c1
  have hs2 : w1.heap.size ≤ W2.heap.size := bb2.size
  clear hR1 c1
  subst hW2
  have ⟨zA2, cA2, dA2⟩ := hA2
  have ⟨⟨zR2, cR2, dR2⟩, fR2, gR2⟩ := hR2
  cases had : adB xss
  · have HF := Lib.hid had
    have HM : Hid (mxB xss = false) := by simp [Hid, mxB, had]
    clear had hok
    go_wp2_with fail
    have hR7 := hR2.set (.int .i64 s) (.slice va vn vc)
    have b7 := (b2.setCell (p := ⟨w.heap.size + 1, 0, none⟩) (by simp) (.int .i64 s)).setCell (p := ⟨w.heap.size + 1, 1, none⟩) (by simp) (.slice va vn vc)
    refine bodyPost_ret (v := .tuple #[.agg #[.int .i64 s, .slice va vn vc], .bool false]) (by have ⟨⟨_, q1, q2⟩, _, _⟩ := hR7; simp [results, Tryz.results82, go_sem, q1, q2]) rfl ?_
    exact ⟨s, va, vn, vc, by rw [HM.out], (by intro h; rw [HM.out] at h; cases h), b7⟩
  · have HF := Lib.hid had
    have HOK := Lib.hid (hok had)
    have h12 := adB_small had
    clear had hok
    have HUC := Lib.hid (isUpper_any a xss cap _ (HX.out.below b2))
    cases hup : upB xss
    · have HU := Lib.hid hup
      have HM : Hid (mxB xss = false) := by simp [Hid, mxB, hup]
      clear hup
      go_wp2_with fail
      refine HUC.out.mono ?_
      rintro e w3 ⟨rfl, hb3⟩
      rw [HU.out]
      have hA3 := hA2.below hb3
      have hR3 := hR2.below hb3
      have b3 := b2.trans (hb3.mono b2.size)
      have ⟨zA3, cA3, dA3⟩ := hA3
      have ⟨⟨zR3, cR3, dR3⟩, fR3, gR3⟩ := hR3
      clear hb3
      go_wp2_with fail
      have hR7 := hR3.set (.int .i64 s) (.slice va vn vc)
      have b7 := (b3.setCell (p := ⟨w.heap.size + 1, 0, none⟩) (by simp) (.int .i64 s)).setCell (p := ⟨w.heap.size + 1, 1, none⟩) (by simp) (.slice va vn vc)
      refine bodyPost_ret (v := .tuple #[.agg #[.int .i64 s, .slice va vn vc], .bool false]) (by have ⟨⟨_, q1, q2⟩, _, _⟩ := hR7; simp [results, Tryz.results82, go_sem, q1, q2]) rfl ?_
      exact ⟨s, va, vn, vc, by rw [HM.out], (by intro h; rw [HM.out] at h; cases h), b7⟩
    · have HU := Lib.hid hup
      have HL : Hid (∀ k, k < xss.length → (rowL xss k).length = xss.length) := fun k hk => (upB_iff.1 hup k hk).1
      have HM : Hid (mxB xss = adB (colsL xss)) := by rw [Hid, mxB, HF.out, hup]; rfl
      clear hup
      go_wp2_with fail
      refine HUC.out.mono ?_
      rintro e w3 ⟨rfl, hb3⟩
      rw [HU.out]
      have hA3 := hA2.below hb3
      have hR3 := hR2.below hb3
      have b3 := b2.trans (hb3.mono b2.size)
      have hs3 : w1.heap.size ≤ w3.heap.size := by have := hb3.size; simp at this; omega
      have c3 := (hb3.cell (p := ⟨w.heap.size, 0, none⟩) (by simp; omega)).trans c2
      have ⟨zA3, cA3, dA3⟩ := hA3
      have ⟨⟨zR3, cR3, dR3⟩, fR3, gR3⟩ := hR3
      have bb3 : Below w1.heap.size w1 w3 := bb2.trans (hb3.mono (by simp))
      clear hb3
      go_wp2_with fail
      refine (columnsOf_any a xss cap _ (HX.out.below b3).rd h12 HL.out).mono ?_
      rintro e w4 ⟨g, vlc, rfl, hro, hb4⟩
      have hA4 := hA3.below hb4
      have hR4 := hR3.below hb4
      have b4 := b3.trans (hb4.mono b3.size)
      have hs4 : w3.heap.size ≤ w4.heap.size := hb4.size
      have ⟨zA4, cA4, dA4⟩ := hA4
      have ⟨⟨zR4, cR4, dR4⟩, fR4, gR4⟩ := hR4
      have hAU := iAddUp_any (some ⟨g, 0, none⟩) (colsL xss) xss.length w4 hro.o.rd (by rw [colsL_sq]; exact sq_small (by omega))
      rw [← HM.out, colsL_len] at hAU
      have HAU := Lib.hid hAU
      have bb4 : Below w1.heap.size w1 w4 := bb3.trans (hb4.mono hs3)
      clear hb4 hro hAU
      go_wp2_with fail
      refine HAU.out.mono ?_
      rintro e w5 ⟨s5, va5, vn5, vc5, rfl, _, hb5⟩
      have hA5 := hA4.below hb5
      have hR5 := hR4.below hb5
      have b5 := b4.trans (hb5.mono b4.size)
      have bb5 : Below w1.heap.size w1 w5 := bb4.trans (hb5.mono (by omega))
      have ⟨zA5, cA5, dA5⟩ := hA5
      have ⟨⟨zR5, cR5, dR5⟩, fR5, gR5⟩ := hR5
      have hs5 : w4.heap.size ≤ w5.heap.size := hb5.size
      clear hb5
      go_wp2_with fail
      have hR7 := hR5.set (.int .i64 s) (.slice va vn vc)
      have b7 := (b5.setCell (p := ⟨w.heap.size + 1, 0, none⟩) (by simp) (.int .i64 s)).setCell (p := ⟨w.heap.size + 1, 1, none⟩) (by simp) (.slice va vn vc)
      refine bodyPost_ret (v := .tuple #[.agg #[.int .i64 s, .slice va vn vc], .bool (mxB xss)]) (by have ⟨⟨_, q1, q2⟩, _, _⟩ := hR7; simp [results, Tryz.results82, go_sem, q1, q2]) rfl ?_
      refine ⟨s, va, vn, vc, rfl, fun _ => ⟨HOK.out.1, ?_⟩, b7⟩
      obtain ⟨vl, hp⟩ := HOK.out.2
      have hp5 := hp.below bb5 (Nat.le_refl _)
      have hset : ∀ (p : Addr) (u : Value) (w9 : World), p.block = w.heap.size + 1 → SumP w9 W0.heap.size (.slice va vn vc) vl xss → SumP (w9.setCell p u) W0.heap.size (.slice va vn vc) vl xss := fun p u w9 e h =>
        ⟨ownsRow_setCell_below h.own (by rw [e]; omega) u, h.vlen, fun k hk => (h.row k hk).setBelow (by rw [e]; omega) u, h.apart, h.pair⟩
      exact ⟨vl, (hset _ _ _ rfl (hset _ _ _ rfl hp5)).mono (by omega)⟩

theorem iIsMatrix_any (a : Option Addr) (xss : List (List Int)) (cap : Nat) (w : World) (hx : RdC w a xss) (hs : xss.length + totS xss xss.length ≤ 1048576) :
    Calls Tryz.prog 49 #[.agg #[.slice a xss.length cap]] w fun e w' => e = .returned (.bool (mxB xss)) ∧ Below w.heap.size w w' := by
  have hlen := hx.rd.len
  go_enter Tryz.func49, Tryz.ntmps49
  go_wp2_with fail
  refine (rowsOf_any _ _ _ _ (hx.below (by repeat (first | exact Below.refl _ _ | assumption | refine Below.alloc ?_ (by first | exact Nat.le_refl _ | (simp only [World.size_alloc, World.size_setCell, World.size_drew]; omega) | omega) _ | refine Below.setCell ?_ (by first | exact Nat.le_refl _ | (simp only [World.size_alloc, World.size_setCell, World.size_drew]; omega) | omega) _ | refine Below.drew ?_))) hs).mono ?_
  rintro e w1 ⟨s, va, vn, vc, rfl, _, hb⟩
  have b1 : Below w.heap.size w w1 := Below.trans (by repeat (first | exact Below.refl _ _ | assumption | refine Below.alloc ?_ (by first | exact Nat.le_refl _ | (simp only [World.size_alloc, World.size_setCell, World.size_drew]; omega) | omega) _ | refine Below.setCell ?_ (by first | exact Nat.le_refl _ | (simp only [World.size_alloc, World.size_setCell, World.size_drew]; omega) | omega) _ | refine Below.drew ?_)) (hb.mono (by first | (simp only [World.size_alloc, World.size_setCell, World.size_drew]; omega) | omega))
  clear hb
  go_wp2_with fail
  go_ret
  exact ⟨rfl, b1.alloc b1.size _⟩

theorem isBefore_any (x y x' y' : Int) (w : World) :
    Calls Tryz.prog 74 #[.agg #[.int .i64 x, .int .i64 y], .agg #[.int .i64 x', .int .i64 y']] w fun e w' => e = .returned (.bool (decide (y < x'))) ∧ Below w.heap.size w w' := by
  by_cases h : y < x'
  all_goals
    go_enter Tryz.func74, Tryz.ntmps74
    go_wp2
    go_ret
    exact ⟨ret_bool (by simp [h]), (by repeat (first | exact Below.refl _ _ | assumption | refine Below.alloc ?_ (by first | exact Nat.le_refl _ | (simp only [World.size_alloc, World.size_setCell, World.size_drew]; omega) | omega) _ | refine Below.setCell ?_ (by first | exact Nat.le_refl _ | (simp only [World.size_alloc, World.size_setCell, World.size_drew]; omega) | omega) _ | refine Below.drew ?_))⟩

theorem cmpBefore_any (a : Option Addr) (cs : List Int) (n cap : Nat) (x y : Int) (w : World) (hx : Rd w a cs) (hl : cs.length = n * 2) (hn : n ≤ 10) :
    Calls Tryz.prog 73 #[.slice a n cap, .agg #[.int .i64 x, .int .i64 y], .func (.func 74) #[] #[]] w fun e w' => e = .returned (.int .i64 (befTo cs y n)) ∧ Below w.heap.size w w' := by
  have HL := Lib.hid hl
  clear hl
  go_enter Tryz.func73, Tryz.ntmps73
  go_wp2_with fail
  go_loopw [7, 12] (fun s i wr => ∃ k : Nat, k ≤ n ∧ i = .int .i64 k ∧ s = .int .i64 (befTo cs y k) ∧ Below w.heap.size w wr ∧ Box2 wr w.heap.size (.int .i64 x) (.int .i64 y)) (fun _ i _ => n - (intOf i).toNat)
  case atStart => exact ⟨0, Nat.zero_le _, rfl, rfl, (by repeat (first | exact Below.refl _ _ | assumption | refine Below.alloc ?_ (by first | exact Nat.le_refl _ | (simp only [World.size_alloc, World.size_setCell, World.size_drew]; omega) | omega) _ | refine Below.setCell ?_ (by first | exact Nat.le_refl _ | (simp only [World.size_alloc, World.size_setCell, World.size_drew]; omega) | omega) _ | refine Below.drew ?_)), Box2.new w _ _ _⟩
  case round =>
    obtain ⟨k, hk, rfl, rfl, hb, hB⟩ := hrel
    have ⟨zB, cB, dB⟩ := hB
    have hzr := hb.size
    by_cases hlt : k < n
    · obtain ⟨b, off, rfl, hbl, hc1, hc2⟩ := (hx.below hb).pair HL.out hlt
      have hbs := befTo_small cs y (k := k) (by omega)
      have hor := Lib.hid (or_bit (b := befTo cs y k) (k := k) (by omega) (by omega))
      clear hbs
      by_cases hlt2 : y < lft cs k
      · have HS : Hid (befTo cs y (k+1) = befTo cs y k ||| 2 ^ k) := by rw [Hid, befTo, if_pos hlt2]
        have hd : decide (y < lft cs k) = true := by simp [hlt2]
        clear hlt2
        go_wp2_with fail
        refine (isBefore_any _ _ _ _ _).mono ?_
        rw [hd]
        rintro e w2 ⟨rfl, hb2⟩
        have ht2 : Below wr.heap.size wr w2 := Below.trans (by repeat (first | exact Below.refl _ _ | assumption | refine Below.alloc ?_ (by first | exact Nat.le_refl _ | (simp only [World.size_alloc, World.size_setCell, World.size_drew]; omega) | omega) _ | refine Below.setCell ?_ (by first | exact Nat.le_refl _ | (simp only [World.size_alloc, World.size_setCell, World.size_drew]; omega) | omega) _ | refine Below.drew ?_)) (hb2.mono (by first | (simp only [World.size_alloc, World.size_setCell, World.size_drew]; omega) | omega))
        have bw2 := hb.trans (ht2.mono hb.size)
        have B2 := hB.below ht2
        clear hb2 cB dB hc1 hc2
        go_wp2_with fail
        go_roundw
        case rel => exact ⟨k + 1, by omega, by go_num, val_int (by rw [hor.out, HS.out]), bw2, B2⟩
        case measure => simp [intOf]; omega
      · have HS : Hid (befTo cs y (k+1) = befTo cs y k) := by rw [Hid, befTo, if_neg hlt2]
        have hd : decide (y < lft cs k) = false := by simp; omega
        clear hlt2
        go_wp2_with fail
        refine (isBefore_any _ _ _ _ _).mono ?_
        rw [hd]
        rintro e w2 ⟨rfl, hb2⟩
        have ht2 : Below wr.heap.size wr w2 := Below.trans (by repeat (first | exact Below.refl _ _ | assumption | refine Below.alloc ?_ (by first | exact Nat.le_refl _ | (simp only [World.size_alloc, World.size_setCell, World.size_drew]; omega) | omega) _ | refine Below.setCell ?_ (by first | exact Nat.le_refl _ | (simp only [World.size_alloc, World.size_setCell, World.size_drew]; omega) | omega) _ | refine Below.drew ?_)) (hb2.mono (by first | (simp only [World.size_alloc, World.size_setCell, World.size_drew]; omega) | omega))
        have bw2 := hb.trans (ht2.mono hb.size)
        have B2 := hB.below ht2
        clear hb2 cB dB hc1 hc2
        go_wp2_with fail
        go_roundw
        case rel => exact ⟨k + 1, by omega, by go_num, val_int (by rw [HS.out]), bw2, B2⟩
        case measure => simp [intOf]; omega
    · obtain rfl : k = n := by omega
      go_wp2_with fail
      go_ret
      exact ⟨rfl, hb⟩

theorem isWrong_any (x y : Int) (w : World) :
    Calls Tryz.prog 101 #[.agg #[.int .i64 x, .int .i64 y]] w fun e w' => e = .returned (.bool (wrongB x y)) ∧ Below w.heap.size w w' := by
  by_cases h1 : x < -1000
  · have H : Hid (wrongB x y = true) := by simp [Hid, wrongB, h1]
    go_enter Tryz.func101, Tryz.ntmps101
    go_wp2
    go_ret
    exact ⟨ret_bool H.out.symm, (by repeat (first | exact Below.refl _ _ | assumption | refine Below.alloc ?_ (by first | exact Nat.le_refl _ | (simp only [World.size_alloc, World.size_setCell, World.size_drew]; omega) | omega) _ | refine Below.setCell ?_ (by first | exact Nat.le_refl _ | (simp only [World.size_alloc, World.size_setCell, World.size_drew]; omega) | omega) _ | refine Below.drew ?_))⟩
  · by_cases h2 : y < x
    · have H : Hid (wrongB x y = true) := by simp [Hid, wrongB, h2]
      go_enter Tryz.func101, Tryz.ntmps101
      go_wp2
      go_ret
      exact ⟨ret_bool H.out.symm, (by repeat (first | exact Below.refl _ _ | assumption | refine Below.alloc ?_ (by first | exact Nat.le_refl _ | (simp only [World.size_alloc, World.size_setCell, World.size_drew]; omega) | omega) _ | refine Below.setCell ?_ (by first | exact Nat.le_refl _ | (simp only [World.size_alloc, World.size_setCell, World.size_drew]; omega) | omega) _ | refine Below.drew ?_))⟩
    · have H : Hid (wrongB x y = decide (1000 < y)) := by simp [Hid, wrongB, h1, h2]
      go_enter Tryz.func101, Tryz.ntmps101
      go_wp2
      go_ret
      exact ⟨ret_bool (by rw [H.out]), (by repeat (first | exact Below.refl _ _ | assumption | refine Below.alloc ?_ (by first | exact Nat.le_refl _ | (simp only [World.size_alloc, World.size_setCell, World.size_drew]; omega) | omega) _ | refine Below.setCell ?_ (by first | exact Nat.le_refl _ | (simp only [World.size_alloc, World.size_setCell, World.size_drew]; omega) | omega) _ | refine Below.drew ?_))⟩

/-- the first wrong pair, or -1 -/
def idxW (cs : List Int) (n : Nat) : Int := match (List.range n).find? (fun k => wrongB (lft cs k) (rgt cs k)) with | some k => (k : Int) | none => -1
theorem idxW_at {cs : List Int} {n k : Nat} (hk : k < n) (h : wrongB (lft cs k) (rgt cs k) = true) (hb : ∀ j, j < k → wrongB (lft cs j) (rgt cs j) = false) : idxW cs n = (k : Int) := by
  have : (List.range n).find? (fun k => wrongB (lft cs k) (rgt cs k)) = some k := by
    rw [List.find?_range_eq_some]
    exact ⟨h, by simpa using hk, fun j hj => by simp [hb j hj]⟩
  rw [idxW, this]
theorem idxW_none {cs : List Int} {n : Nat} (h : ∀ j, j < n → wrongB (lft cs j) (rgt cs j) = false) : idxW cs n = -1 := by
  have : (List.range n).find? (fun k => wrongB (lft cs k) (rgt cs k)) = none := by
    rw [List.find?_eq_none]
    intro x hx
    simp [h x (by simpa using hx)]
  rw [idxW, this]
theorem indexWrong_any (a : Option Addr) (cs : List Int) (n cap : Nat) (w : World) (hx : Rd w a cs) (hl : cs.length = n * 2) (hn : n ≤ 1048576) :
    Calls Tryz.prog 119 #[.slice a n cap, .func (.func 101) #[] #[]] w fun e w' => e = .returned (.int .i64 (idxW cs n)) ∧ Below w.heap.size w w' := by
  have HL := Lib.hid hl
  clear hl
  go_enter Tryz.func119, Tryz.ntmps119
  go_wp2_with fail
  go_loopw [8] (fun i wr => ∃ k : Nat, k ≤ n ∧ i = .int .i64 k ∧ (∀ j, j < k → wrongB (lft cs j) (rgt cs j) = false) ∧ Below w.heap.size w wr) (fun i _ => n - (intOf i).toNat)
  case atStart => exact ⟨0, Nat.zero_le _, rfl, fun j hj => by omega, Below.refl _ _⟩
  case round =>
    obtain ⟨k, hk, rfl, hall, hb⟩ := hrel
    have HA := Lib.hid hall
    clear hall
    by_cases hlt : k < n
    · obtain ⟨b, off, rfl, hbl, hc1, hc2⟩ := (hx.below hb).pair HL.out hlt
      cases hw : wrongB (lft cs k) (rgt cs k)
      · have HW := Lib.hid hw
        go_wp2_with fail
        refine (isWrong_any _ _ _).mono ?_
        rw [HW.out]
        rintro e w2 ⟨rfl, hb2⟩
        have bw2 := hb.trans (hb2.mono hb.size)
        go_wp2_with fail
        go_roundw
        case rel =>
          refine ⟨k + 1, by omega, by go_num, fun j hj => ?_, bw2⟩
          by_cases e : j = k
          · rw [e]; exact HW.out
          · exact HA.out j (by omega)
        case measure => simp [intOf]; omega
      · have HI := Lib.hid (idxW_at hlt hw HA.out)
        have HW := Lib.hid hw
        go_wp2_with fail
        refine (isWrong_any _ _ _).mono ?_
        rw [HW.out]
        rintro e w2 ⟨rfl, hb2⟩
        have bw2 := hb.trans (hb2.mono hb.size)
        go_wp2_with fail
        go_ret
        exact ⟨ret_int HI.out.symm, bw2⟩
    · obtain rfl : k = n := by omega
      have HI := Lib.hid (idxW_none HA.out)
      go_wp2_with fail
      go_ret
      exact ⟨ret_int HI.out.symm, hb⟩
theorem containsWrong_any (a : Option Addr) (cs : List Int) (n cap : Nat) (w : World) (hx : Rd w a cs) (hl : cs.length = n * 2) (hn : n ≤ 1048576) :
    Calls Tryz.prog 100 #[.slice a n cap, .func (.func 101) #[] #[]] w fun e w' => e = .returned (.bool (decide (0 ≤ idxW cs n))) ∧ Below w.heap.size w w' := by
  go_enter Tryz.func100, Tryz.ntmps100
  go_wp2_with fail
  refine (indexWrong_any _ _ _ _ _ hx hl hn).mono ?_
  rintro e w2 ⟨rfl, hb2⟩
  clear hl
  go_wp2_with fail
  go_ret
  exact ⟨rfl, hb2⟩
theorem good_idx {cs : List Int} {n : Nat} (h : n ≤ 10) : goodV cs n = !decide (0 ≤ idxW cs n) := by
  cases hg : goodV cs n
  · have h1 : ∃ k, k < n ∧ wrongB (lft cs k) (rgt cs k) = true := by
      apply Classical.byContradiction
      intro hne
      have : goodV cs n = true := goodV_iff.2 ⟨h, fun k hk => by
        cases hw : wrongB (lft cs k) (rgt cs k)
        · rfl
        · exact absurd ⟨k, hk, hw⟩ hne⟩
      rw [hg] at this; cases this
    unfold idxW
    cases hf : (List.range n).find? (fun k => wrongB (lft cs k) (rgt cs k)) with
    | none =>
      obtain ⟨k, hk, hw⟩ := h1
      rw [List.find?_eq_none] at hf
      exact absurd hw (hf k (by simpa using hk))
    | some k => simp
  · rw [idxW_none (goodV_iff.1 hg).2]; rfl

theorem iAreIntervals_any (a : Option Addr) (cs : List Int) (n cap : Nat) (w : World) (hx : Rd w a cs) (hl : cs.length = n * 2) (hn : n ≤ 1048576) :
    Calls Tryz.prog 72 #[.slice a n cap] w fun e w' => e = .returned (.bool (goodV cs n)) ∧ Below w.heap.size w w' := by
  by_cases h : n ≤ 10
  · have H := Lib.hid (good_idx (cs := cs) h)
    have HL := Lib.hid hl
    clear hl
    go_enter Tryz.func72, Tryz.ntmps72
    go_wp2_with fail
    refine (containsWrong_any _ _ _ _ _ hx HL.out hn).mono ?_
    rintro e w2 ⟨rfl, hb2⟩
    go_wp2_with fail
    go_ret
    exact ⟨ret_bool (by rw [H.out]), hb2⟩
  · have H := Lib.hid (goodV_big (cs := cs) (n := n) (by omega))
    clear hl
    go_enter Tryz.func72, Tryz.ntmps72
    go_wp2_with fail
    go_ret
    exact ⟨ret_bool H.out.symm, Below.refl _ _⟩

theorem iOrderOfIv_any (a : Option Addr) (cs : List Int) (n cap : Nat) (w : World) (hx : Rd w a cs) (hl : cs.length = n * 2) (hn : n ≤ 1048576) :
    Calls Tryz.prog 38 #[.slice a n cap] w (GotO w (ooN cs n) (ooL cs n) (goodV cs n)) := by
  obtain ⟨i0, hi, hz0, hz1, hz2⟩ := info_parts infoInt
  have HL := Lib.hid hl
  clear hl
  have hx1 := hx.alloc (.cells #[.int .i64 0, .slice none 0 0] 31)
  cases hg : goodV cs n
  · have H1 : Hid (ooN cs n = 0) := by simp [Hid, ooN, hg]
    have H2 : Hid (ooL cs n = []) := by simp [Hid, ooL, hg]
    have HG := Lib.hid hg
    clear hg
    go_enter Tryz.func38, Tryz.ntmps38
    go_wp2_with fail
    refine (iAreIntervals_any _ _ _ _ _ hx1 HL.out hn).mono ?_
    rw [HG.out]
    rintro e w1 ⟨rfl, hb1⟩
    have R1 : Var2 w1 w.heap.size (.int .i64 0) (.slice none 0 0) := (Var2.new w _ _ _).below hb1
    have ⟨⟨zR, cR, dR⟩, fR, gR⟩ := R1
    have bw1 : Below w.heap.size w w1 := Below.trans (by repeat (first | exact Below.refl _ _ | assumption | refine Below.alloc ?_ (by first | exact Nat.le_refl _ | (simp only [World.size_alloc, World.size_setCell, World.size_drew]; omega) | omega) _ | refine Below.setCell ?_ (by first | exact Nat.le_refl _ | (simp only [World.size_alloc, World.size_setCell, World.size_drew]; omega) | omega) _ | refine Below.drew ?_)) (hb1.mono (by first | (simp only [World.size_alloc, World.size_setCell, World.size_drew]; omega) | omega))
    clear hb1
    go_wp2_with fail
    have R3 := R1.set (.int .i64 0) (.slice none 0 0)
    refine bodyPost_ret (v := .tuple #[.agg #[.int .i64 0, .slice none 0 0], .bool false]) (by have ⟨⟨_, q1, q2⟩, _, _⟩ := R3; simp [results, Tryz.results38, go_sem, q1, q2]) rfl ?_
    refine ⟨none, 0, ?_, ?_, ?_⟩
    · rw [H1.out, H2.out]; rfl
    · rw [H2.out]; exact OwnI.nil _ _
    · exact (bw1.setCell (by simp) _).setCell (by simp) _
  · have ⟨hn10, hbd⟩ := goodV_iff.1 hg
    have H1 : Hid (ooN cs n = (n : Int)) := by simp [Hid, ooN, hg]
    have H2 : Hid (ooL cs n = ivo cs n n) := by simp [Hid, ooL, hg]
    have HG := Lib.hid hg
    clear hg hbd
    go_enter Tryz.func38, Tryz.ntmps38
    go_wp2_with fail
    refine (iAreIntervals_any _ _ _ _ _ hx1 HL.out hn).mono ?_
    rw [HG.out]
    rintro e w1 ⟨rfl, hb1⟩
    have R1 : Var2 w1 w.heap.size (.int .i64 0) (.slice none 0 0) := (Var2.new w _ _ _).below hb1
    have bw1 : Below w.heap.size w w1 := Below.trans (by repeat (first | exact Below.refl _ _ | assumption | refine Below.alloc ?_ (by first | exact Nat.le_refl _ | (simp only [World.size_alloc, World.size_setCell, World.size_drew]; omega) | omega) _ | refine Below.setCell ?_ (by first | exact Nat.le_refl _ | (simp only [World.size_alloc, World.size_setCell, World.size_drew]; omega) | omega) _ | refine Below.drew ?_)) (hb1.mono (by first | (simp only [World.size_alloc, World.size_setCell, World.size_drew]; omega) | omega))
    have hz1' : w.heap.size + 1 ≤ w1.heap.size := by have := R1.1.1; omega
    clear hb1
    go_wp2_with (at_make; refine wpList_make_full _ rfl (.tmp 12) (.tmp 12) 24 rfl (w.heap.size + 1) 3 i0 (.int .i64 0) 1 Tryz.underlying24 hi hz0 hz1 .i64 .i64 _ _ n rfl rfl rfl rfl (by rw [hz2]; omega) (by unfold maxLen; omega) hz1' ?_; intro w2 hown hgrow)
    have R2 := R1.kept hgrow (by simp)
    have hb2 : Below w.heap.size w w2 := bw1.grown hgrow bw1.size (fun k h => by cases h)
    have hown0 := made_row (ivE cs n) hown
    obtain ⟨g, hg⟩ : ∃ g, g = w1.heap.size := ⟨_, rfl⟩
    rw [← hg] at hown0 ⊢
    have hgz : w.heap.size + 1 ≤ g := by omega
    clear hown hgrow R1 hg
    go_wp2_with fail
    go_loopw [16] (fun i wr => ∃ k : Nat, k ≤ n ∧ i = .int .i64 k ∧ OwnI wr (w.heap.size + 1) (.slice (some ⟨g, 0, none⟩) n n) (rowF (ivE cs n) n k) ∧ Below w.heap.size w wr ∧ Var2 wr w.heap.size (.int .i64 0) (.slice none 0 0)) (fun i _ => n - (intOf i).toNat)
    case atStart => exact ⟨0, Nat.zero_le _, rfl, hown0, hb2, R2⟩
    case round =>
      obtain ⟨k, hk, rfl, hown, hb, hR⟩ := hrel
      have hzr := hb.size
      by_cases hlt : k < n
      · obtain ⟨b, off, rfl, hbl, hc1, hc2⟩ := (hx.below hb).pair HL.out hlt
        have k0 : (0 : Int) ≤ (k : Int) := by omega
        have k1 : (k : Int) < (n : Int) := by omega
        go_wp2_with fail
        refine (cmpBefore_any _ _ _ _ _ _ _ ((hx.below hb).alloc _) HL.out hn10).mono ?_
        rintro e w3 ⟨rfl, hb3⟩
        have ht3 : Below wr.heap.size wr w3 := Below.trans (by repeat (first | exact Below.refl _ _ | assumption | refine Below.alloc ?_ (by first | exact Nat.le_refl _ | (simp only [World.size_alloc, World.size_setCell, World.size_drew]; omega) | omega) _ | refine Below.setCell ?_ (by first | exact Nat.le_refl _ | (simp only [World.size_alloc, World.size_setCell, World.size_drew]; omega) | omega) _ | refine Below.drew ?_)) (hb3.mono (by first | (simp only [World.size_alloc, World.size_setCell, World.size_drew]; omega) | omega))
        have o3 := hown.below ht3 (Nat.le_refl _)
        have bw3 := hb.trans (ht3.mono hb.size)
        have R3 := hR.below ht3
        have hrl := rowF_len (ivE cs n) hk
        have ⟨ci, fi⟩ := o3.at' hrl.symm (i := k) (by omega)
        have hput := o3.put hrl.symm k (ivE cs n k)
        rw [rowF_set _ hlt] at hput
        have HP := Lib.hid hput.1
        have R4 := R3.kept hput.2 (by simp; omega)
        have bw4 := bw3.setCell (p := ⟨g, k, none⟩) (show w.heap.size ≤ g by omega) (.int .i64 (ivE cs n k))
        have HE : Hid (((befTo cs (rgt cs k) n : Nat) : Int) = ivE cs n k) := rfl
        rw [HE.out]
        clear hput hrl hown o3 hb3 hc1 hc2 R3
        go_wp2_with fail
        go_roundw
        case rel => exact ⟨k + 1, by omega, by go_num, HP.out, bw4, R4⟩
        case measure => simp [intOf]; omega
      · obtain rfl : k = n := by omega
        rw [rowF_end] at hown
        have ho : OwnI wr (w.heap.size + 1) (.slice (some ⟨g, 0, none⟩) k k) (ivo cs k k) := hown
        have ⟨⟨zR, cR, dR⟩, fR, gR⟩ := hR
        clear hown
        go_wp2_with fail
        have R3 := hR.set (.int .i64 (k : Int)) (.slice (some ⟨g, 0, none⟩) k k)
        refine bodyPost_ret (v := .tuple #[.agg #[.int .i64 (k : Int), .slice (some ⟨g, 0, none⟩) k k], .bool true]) (by have ⟨⟨_, q1, q2⟩, _, _⟩ := R3; simp [results, Tryz.results38, go_sem, q1, q2]) rfl ?_
        refine ⟨some ⟨g, 0, none⟩, k, ?_, ?_, ?_⟩
        · rw [H1.out, H2.out, ivo_len]
        · rw [H2.out, ivo_len]
          exact ((ho.setBelow (p := ⟨w.heap.size, 0, none⟩) (show w.heap.size < w.heap.size + 1 by omega) _).setBelow (p := ⟨w.heap.size, 1, none⟩) (show w.heap.size < w.heap.size + 1 by omega) _).mono (by omega)
        · exact (hb.setCell (p := ⟨w.heap.size, 0, none⟩) (Nat.le_refl _) _).setCell (p := ⟨w.heap.size, 1, none⟩) (Nat.le_refl _) _

/-- one pair more at the end of a row of pairs that is owned -/
theorem push_iv {ops : Array Oper} {rest : List Oper} {o : Oper} {a : Act} {Q : Exit → Act → World → Prop} (hgd : o.guard = none) (s x : Operand)
    (ho : o.op = .call { callee := .builtin .append, args := #[s, x], argTypes := #[26, 26] }) {wr : World} {B n : Nat} {v : Value} {cs : List Int} {l r : Int} {g : Nat}
    (hs : a.eval s = v) (hx : a.eval x = .slice (some ⟨g, 0, none⟩) 1 1) (hown : OwnV wr B v n cs) (hgz : wr.heap.size = g) (h63 : n ≤ 1048576) (hB : B ≤ wr.heap.size)
    (h : ∀ v' w', OwnV w' B v' (n + 1) (cs ++ [l, r]) → wr.grownBy w' v.ownBlock → (v'.ownBlock = v.ownBlock ∨ v'.ownBlock = some (g + 1)) → wpList Tryz.prog ops Q rest (a.put o.dst v') w') :
    wpList Tryz.prog ops Q (o :: rest) a (wr.alloc (.cells #[.int .i64 l, .int .i64 r] 65)) := by
  subst hgz
  obtain ⟨i0, hi, hz0, hz1, hz2⟩ := info_parts infoIv
  refine wpList_append_own_at _ hgd s x 26 ho B 65 i0 (.agg #[.int .i64 0, .int .i64 0]) 2 16 Tryz.underlying26 hi hz0 hz1 hz2 rfl (by decide) v n (cs.map (Value.int .i64)) hs (hown.alloc _) ⟨wr.heap.size, 0, none⟩ 1 1 [.int .i64 l, .int .i64 r] hx rfl (cell_two_new _ _ _ _) (two_one _ _) (by unfold maxLen; omega) (by omega) (by simp; omega) ?_
  intro v' w' ho2 hg _ hat
  refine h v' w' ?_ (grown_alloc_set hg) (by simpa using hat)
  unfold OwnV
  rw [List.map_append]
  exact ho2

theorem got_no {w w' : World} {n : Int} {ys : List Int} {ok : Bool} (h1 : n = 0) (h2 : ys = []) (h3 : ok = false) (hb : Below w.heap.size w w') : GotO w n ys ok (.returned (.tuple #[.agg #[.int .i64 0, .slice none 0 0], .bool false])) w' := by
  subst h1 h2 h3
  exact ⟨none, 0, rfl, OwnI.nil _ _, hb⟩

set_option maxRecDepth 100000 in
set_option maxHeartbeats 1000000 in
theorem iMxO_any (a : Option Addr) (xss : List (List Int)) (cap : Nat) (w : World) (hx : RdC w a xss) (hs : xss.length + totS xss xss.length ≤ 1048576) :
    Calls Tryz.prog 21 #[.agg #[.slice a xss.length cap]] w (GotO w (omN xss) (omL xss) (omB xss)) := by
  have hlen := hx.rd.len
  have hV := Var2.new (w.alloc (.cells #[.slice a xss.length cap] 45)) (.int .i64 0) (.slice none 0 0) 31
  have hb0 : Below w.heap.size w ((w.alloc (.cells #[.slice a xss.length cap] 45)).alloc (.cells #[.int .i64 0, .slice none 0 0] 31)) := (by repeat (first | exact Below.refl _ _ | assumption | refine Below.alloc ?_ (by first | exact Nat.le_refl _ | (simp only [World.size_alloc, World.size_setCell, World.size_drew]; omega) | omega) _ | refine Below.setCell ?_ (by first | exact Nat.le_refl _ | (simp only [World.size_alloc, World.size_setCell, World.size_drew]; omega) | omega) _ | refine Below.drew ?_))
  have hA : Box1 ((w.alloc (.cells #[.slice a xss.length cap] 45)).alloc (.cells #[.int .i64 0, .slice none 0 0] 31)) w.heap.size (.slice a xss.length cap) := (Box1.new w _ _).below ((Below.refl _ _).alloc (Nat.le_refl _) _)
  rw [World.size_alloc] at hV
  have HCL := Lib.hid (fun W (h : RdC W a xss) => iIsMatrix_any a xss cap W h hs)
  cases hm : mxB xss
  · have HM := Lib.hid hm
    have H1 : Hid (omB xss = false) := by simp [Hid, omB, hm]
    have H2 : Hid (omN xss = 0) := by rw [Hid, omN, H1.out]; rfl
    have H3 : Hid (omL xss = []) := by rw [Hid, omL, H1.out]; rfl
    clear hm
    go_enter Tryz.func21, Tryz.ntmps21
    go_wp2_with fail
    refine (HCL.out _ (hx.below hb0)).mono ?_
    rintro e w1 ⟨rfl, hb⟩
    rw [HM.out]
    have b1 : Below w.heap.size w w1 := hb0.trans (hb.mono (by simp; omega))
    have hV1 := hV.below hb
    have ⟨⟨zV, cV, dV⟩, fV, gV⟩ := hV1
    clear hb hV
    go_wp2_with fail
    have hV2 := hV1.set (.int .i64 0) (.slice none 0 0)
    refine bodyPost_ret (v := .tuple #[.agg #[.int .i64 0, .slice none 0 0], .bool false]) (by have ⟨⟨_, q1, q2⟩, _, _⟩ := hV2; simp [results, Tryz.results21, go_sem, q1, q2]) rfl ?_
    exact got_no H2.out H3.out H1.out ((b1.setCell (p := ⟨w.heap.size + 1, 0, none⟩) (by simp) _).setCell (p := ⟨w.heap.size + 1, 1, none⟩) (by simp) _)
  · have HM := Lib.hid hm
    have h12 := mxB_small hm
    have HX := Lib.hid hx
    have HNUM : Hid (∀ i j, i < xss.length → j < xss.length → 0 ≤ atM xss i j ∧ atM xss i j ≤ 12) := fun i j hi hj => mxB_num hm hi hj
    have HL : Hid (∀ k, k < xss.length → (rowL xss k).length = xss.length) := fun k hk => mxB_len hm hk
    have HG : Hid (goodV (allPs xss xss.length) (omC xss) = omB xss) := by rw [Hid, om_good hm, omB, hm]; rfl
    have H2 : Hid (omN xss = ooN (allPs xss xss.length) (omC xss)) := by rw [Hid, omN, ooN, HG.out]
    have H3 : Hid (omL xss = ooL (allPs xss xss.length) (omC xss)) := by rw [Hid, omL, ooL, HG.out]
    have HLN := Lib.hid (om_len hm)
    have HC12 : Hid (omC xss ≤ 1048576) := by
      have h1 := (adB_iff.1 (mxB_iff.1 hm).1).2
      rw [Hid, omC]; omega
    have HBA : Hid (∀ k, k ≤ xss.length → (allPs xss k).length ≤ 288 * k) := fun k hk => allPs_big h12 (fun i hi q hq => mxB_num hm (by omega) hq)
    have HBR : Hid (∀ k, k < xss.length → ∀ q, q ≤ xss.length → (rowPs xss k (allPs xss k) q).length ≤ 3456) := fun k hk q hq => by
      have h1 := rowPs_big (xss := xss) (i := k) (cs := allPs xss k) (j := q) (fun i hi => mxB_num hm hk (by omega))
      have h2 := HBA.out k (by omega)
      omega
    clear hm hx
    go_enter Tryz.func21, Tryz.ntmps21
    go_wp2_with fail
    refine (HCL.out _ (HX.out.below hb0)).mono ?_
    rintro e w2 ⟨rfl, hb⟩
    rw [HM.out]
    have b2 : Below w.heap.size w w2 := hb0.trans (hb.mono (by simp; omega))
    have hV2 := hV.below hb
    have hA2 := hA.below hb
    have ⟨zA2, cA2⟩ := hA2
    have hz2 : w.heap.size + 2 ≤ w2.heap.size := by have h1 := hV2.1.1; omega
    have HV2 := Lib.hid hV2
    clear hb hV hA hb0 hV2 hA2 HCL
    go_wp2_with fail
    go_loopw [4, 16] (fun v i wr => ∃ (k c : Nat), k ≤ xss.length ∧ i = .int .i64 k ∧ OwnV wr w2.heap.size v c (allPs xss k) ∧ Below w2.heap.size w2 wr) (fun _ i _ => xss.length - (intOf i).toNat)
    case atStart => exact ⟨0, 0, Nat.zero_le _, rfl, OwnV.nil _ _, Below.refl _ _⟩
    case round =>
      obtain ⟨k, c, hk, rfl, hown, hb⟩ := hrel
      have hbs := hb.size
      by_cases hlt : k < xss.length
      · have k1 : (k : Int) < (xss.length : Int) := by omega
        obtain ⟨b0, off0, a', cap', rfl, hbl, hcw, hr⟩ := HX.out.rd.row k hlt
        have hrl := HL.out k hlt
        rw [hrl] at hcw
        have hc := ((b2.trans (hb.mono (by omega : w.heap.size ≤ w2.heap.size))).cell (p := ⟨b0, off0 + k, none⟩) hbl).trans hcw
        have hblr : b0 < wr.heap.size := by omega
        have HR := Lib.hid hr
        have HRL := Lib.hid hrl
        have HO := Lib.hid hown
        clear hr hrl hown hcw
        go_wp2_with fail
        go_loopw [4, 23] (fun v i wq => ∃ (q c : Nat), q ≤ xss.length ∧ i = .int .i64 q ∧ OwnV wq w2.heap.size v c (rowPs xss k (allPs xss k) q) ∧ Below w2.heap.size w2 wq) (fun _ i _ => xss.length - (intOf i).toNat)
        case atStart => exact ⟨0, c, Nat.zero_le _, rfl, HO.out, hb⟩
        case round =>
          obtain ⟨q, c2, hq, rfl, hown2, hb2⟩ := hrel
          by_cases hlt2 : q < xss.length
          · have q1 : (q : Int) < (xss.length : Int) := by omega
            obtain ⟨b3, off3, rfl, hbl3, hc3⟩ := (HR.out.below (b2.trans (hb2.mono (by omega)))).cell q (by rw [HRL.out]; exact hlt2)
            have ⟨n0, n1⟩ := HNUM.out k q hlt hlt2
            obtain ⟨X, hX⟩ := Int.eq_ofNat_of_zero_le n0
            have hXX : nth (rowL xss k) q = (X : Int) := hX
            rw [hXX] at hc3
            have HRW : Hid (rowPs xss k (allPs xss k) (q+1) = addP (rowPs xss k (allPs xss k) q) k q X) := by rw [Hid, rowPs, hX]; rfl
            have hX12 : X ≤ 12 := by omega
            have hbr := HBR.out k hlt q hq
            obtain ⟨CS, hCS⟩ : ∃ CS, CS = rowPs xss k (allPs xss k) q := ⟨_, rfl⟩
            rw [← hCS] at hown2 HRW hbr
            have HO2 := Lib.hid hown2
            clear hX hXX n0 n1 hCS hown2
            go_wp2_with fail
            go_loopw [4, 29] (fun v i wp => ∃ (t c : Nat), t ≤ X ∧ i = .int .i64 t ∧ OwnV wp w2.heap.size v c (addP CS k q t) ∧ Below w2.heap.size w2 wp) (fun _ i _ => X - (intOf i).toNat)
            case atStart => exact ⟨0, c2, Nat.zero_le _, rfl, HO2.out, hb2⟩
            case round =>
              obtain ⟨t, c4, ht, rfl, hown4, hb4⟩ := hrel
              have hb4s := hb4.size
              by_cases hlt4 : t < X
              · have x1 : (t : Int) < (X : Int) := by omega
                have hal := addP_big (cs := CS) (i := k) (j := q) (t := t) hbr (by omega)
                have hl4 := hown4.len
                have hc4 : c4 ≤ 1048576 := by omega
                have HO4 := Lib.hid hown4
                clear hown4 hl4
                go_wp2_with (at_builtin; refine push_iv rfl _ _ rfl rfl rfl HO4.out rfl hc4 (by omega) ?_)
                intro v5 w5 o5 hg5 _
                have hU := HO4.out.lt
                have b5 := hb4.trans (below_of_grown hg5 (fun c e => by have := (hU c e).1; omega) hb4s)
                clear hg5 hU
                go_wp2_with fail
                go_roundw
                case rel => exact ⟨t + 1, c4 + 1, by omega, by go_num, o5, b5⟩
                case measure => simp [intOf]; omega
              · obtain rfl : t = X := by omega
                have HE : Hid (addP CS k q t = rowPs xss k (allPs xss k) (q+1)) := HRW.out.symm
                rw [HE.out] at hown4
                go_wp2_with fail
                go_roundw
                case rel => exact ⟨q + 1, c4, by omega, by go_num, hown4, hb4⟩
                case measure => simp [intOf]; omega
          · obtain rfl : q = xss.length := by omega
            go_wp2_with fail
            go_roundw
            case rel => exact ⟨k + 1, c2, by omega, by go_num, hown2, hb2⟩
            case measure => simp [intOf]; omega
      · obtain rfl : k = xss.length := by omega
        have hl := hown.len
        rw [HLN.out] at hl
        obtain rfl : c = omC xss := by omega
        obtain ⟨av, cv, ev⟩ := hown.form
        subst ev
        have hrv := hown.rd HC12.out
        have HOV := Lib.hid (iOrderOfIv_any av (allPs xss xss.length) (omC xss) cv wr hrv HLN.out HC12.out)
        rw [← H2.out, ← H3.out, HG.out] at HOV
        have HV3 := Lib.hid (HV2.out.below hb)
        have bw := b2.trans (hb.mono (by omega))
        obtain ⟨C, hC⟩ : ∃ C, C = omC xss := ⟨_, rfl⟩
        rw [← hC] at HOV ⊢
        clear hown hrv hl hC H2 H3
        go_wp2_with fail
        refine HOV.out.mono ?_
        rintro e w6 ⟨a6, c6, rfl, ho6, hb6⟩
        have hV6 := HV3.out.below hb6
        have bw6 := bw.trans (hb6.mono bw.size)
        have ⟨⟨zR, cR, dR⟩, fR, gR⟩ := hV6
        have HO6 := Lib.hid ho6
        have hwr : w.heap.size + 2 ≤ wr.heap.size := by omega
        obtain ⟨L, hL⟩ : ∃ L, L = (omL xss).length := ⟨_, rfl⟩
        have HLL := Lib.hid hL
        obtain ⟨N, hN⟩ : ∃ N, N = omN xss := ⟨_, rfl⟩
        have HNN := Lib.hid hN
        rw [← hL] at HO6 ⊢
        rw [← hN]
        clear hb6 ho6 hL hN
        go_wp2_with fail
        have R5 := hV6.set (.int .i64 N) (.slice a6 L c6)
        refine bodyPost_ret (v := .tuple #[.agg #[.int .i64 N, .slice a6 L c6], .bool (omB xss)]) (by have ⟨⟨_, q1, q2⟩, _, _⟩ := R5; simp [results, Tryz.results21, go_sem, q1, q2]) rfl ?_
        refine ⟨a6, c6, by rw [HLL.out, HNN.out], ?_, ?_⟩
        · rw [← HLL.out]
          exact ((HO6.out.setBelow (p := ⟨w.heap.size + 1, 0, none⟩) (by show w.heap.size + 1 < wr.heap.size; omega) _).setBelow (p := ⟨w.heap.size + 1, 1, none⟩) (by show w.heap.size + 1 < wr.heap.size; omega) _).mono (by omega)
        · exact (bw6.setCell (p := ⟨w.heap.size + 1, 0, none⟩) (by simp) _).setCell (p := ⟨w.heap.size + 1, 1, none⟩) (by simp) _

theorem maTotal_any (a : Option Addr) (xs : List Int) (cap : Nat) (w : World) (hx : Rd w a xs) (hs : xs.length ≤ 1048576) (hv : ∀ j, j < xs.length → 0 ≤ nth xs j ∧ nth xs j ≤ 12) :
    Calls Tryz.prog 86 #[.slice a xs.length cap] w fun e w' => e = .returned (.int .i64 (totR xs)) ∧ w = w' := by
  have HV := Lib.hid hv
  have HB : Hid (∀ k, k ≤ xs.length → 0 ≤ totI xs k ∧ totI xs k ≤ 12 * (k : Int)) := by
    intro k
    induction k with
    | zero => intro _; simp [totI]
    | succ k ih =>
      intro hk
      have h1 := ih (by omega)
      have h2 := hv k (by omega)
      rw [totI]; omega
  clear hv
  go_enter Tryz.func86, Tryz.ntmps86
  go_wp2_with fail
  go_loop [3, 8] (fun m i => ∃ k : Nat, k ≤ xs.length ∧ i = .int .i64 k ∧ m = .int .i64 (totI xs k)) (fun _ i => xs.length - (intOf i).toNat)
  case atStart => exact ⟨0, Nat.zero_le _, rfl, rfl⟩
  case round =>
    obtain ⟨k, hk, rfl, rfl⟩ := hrel
    have ⟨h1, h2⟩ := HB.out k hk
    by_cases hlt : k < xs.length
    · obtain ⟨b, off, rfl, hbl, hc⟩ := hx.cell k hlt
      have ⟨h3, h4⟩ := HV.out k hlt
      have HN : Hid (totI xs (k+1) = totI xs k + nth xs k) := rfl
      go_wp2_with fail
      go_round
      case rel => exact ⟨k + 1, by omega, by go_num, val_int (by rw [HN.out])⟩
      case measure => simp [intOf]; omega
    · obtain rfl : k = xs.length := by omega
      go_wp2_with fail
      go_ret
      exact ⟨rfl, rfl⟩

set_option maxRecDepth 100000 in
theorem maSum_any (a : Option Addr) (xss : List (List Int)) (cap : Nat) (w : World) (hx : RdS w a xss) (h12 : xss.length ≤ 12) (hl : ∀ k, k < xss.length → (rowL xss k).length = xss.length) (hv : ∀ k, k < xss.length → ∀ j, j < (rowL xss k).length → 0 ≤ nth (rowL xss k) j ∧ nth (rowL xss k) j ≤ 12) :
    Calls Tryz.prog 51 #[.agg #[.slice a xss.length cap]] w fun e w' => e = .returned (.int .i64 (matS xss xss.length)) ∧ Below w.heap.size w w' := by
  have hlen := hx.len
  have HV := Lib.hid hv
  have HL := Lib.hid hl
  have HR : Hid (∀ k, k < xss.length → 0 ≤ totR (rowL xss k) ∧ totR (rowL xss k) ≤ 144) := by
    intro k hk
    have h3 : ∀ j, j ≤ (rowL xss k).length → 0 ≤ totI (rowL xss k) j ∧ totI (rowL xss k) j ≤ 12 * (j : Int) := by
      intro j
      induction j with
      | zero => intro _; simp [totI]
      | succ j ih =>
        intro hj
        have h1 := ih (by omega)
        have h2 := hv k hk j (by omega)
        rw [totI]; omega
    have h4 := h3 _ (Nat.le_refl _)
    have h5 := hl k hk
    rw [totR]; omega
  have HB : Hid (∀ k, k ≤ xss.length → 0 ≤ matS xss k ∧ matS xss k ≤ 144 * (k : Int)) := by
    intro k
    induction k with
    | zero => intro _; simp [matS]
    | succ k ih =>
      intro hk
      have h1 := ih (by omega)
      have h2 := HR.out k (by omega)
      rw [matS]; omega
  clear hv hl
  go_enter Tryz.func51, Tryz.ntmps51
  go_wp2_with fail
  go_loop [3, 9] (fun m i => ∃ k : Nat, k ≤ xss.length ∧ i = .int .i64 k ∧ m = .int .i64 (matS xss k)) (fun _ i => xss.length - (intOf i).toNat)
  case atStart => exact ⟨0, Nat.zero_le _, rfl, rfl⟩
  case round =>
    obtain ⟨k, hk, rfl, rfl⟩ := hrel
    have ⟨h1, h2⟩ := HB.out k hk
    by_cases hlt : k < xss.length
    · obtain ⟨b, off, a', cap', rfl, hbl, hc, hr⟩ := (hx.below (show Below w.heap.size w (w.alloc (.cells #[.slice a xss.length cap] 45)) from (by repeat (first | exact Below.refl _ _ | assumption | refine Below.alloc ?_ (by first | exact Nat.le_refl _ | (simp only [World.size_alloc, World.size_setCell, World.size_drew]; omega) | omega) _ | refine Below.setCell ?_ (by first | exact Nat.le_refl _ | (simp only [World.size_alloc, World.size_setCell, World.size_drew]; omega) | omega) _ | refine Below.drew ?_)))).row k hlt
      have ⟨h3, h4⟩ := HR.out k hlt
      have h5 := HL.out k hlt
      have k1 : (k : Int) < (xss.length : Int) := by omega
      have HC := Lib.hid (fun W (hr : Rd W a' (rowL xss k)) => maTotal_any a' (rowL xss k) cap' W hr (by omega) (HV.out k hlt))
      have HN : Hid (matS xss (k+1) = matS xss k + totR (rowL xss k)) := rfl
      obtain ⟨T, hT⟩ : ∃ T, T = totR (rowL xss k) := ⟨_, rfl⟩
      obtain ⟨S, hS⟩ : ∃ S, S = matS xss k := ⟨_, rfl⟩
      rw [← hT] at h3 h4 HN HC
      rw [← hS] at h1 h2 HN ⊢
      clear hT hS h5
      go_wp2_with fail
      refine (HC.out _ hr).mono ?_
      rintro e w' ⟨rfl, rfl⟩
      clear hr
      go_wp2_with fail
      go_round
      case rel => exact ⟨k + 1, by omega, by go_num, val_int (by rw [HN.out])⟩
      case measure => simp [intOf]; omega
    · obtain rfl : k = xss.length := by omega
      go_wp2_with fail
      go_ret
      exact ⟨rfl, (by repeat (first | exact Below.refl _ _ | assumption | refine Below.alloc ?_ (by first | exact Nat.le_refl _ | (simp only [World.size_alloc, World.size_setCell, World.size_drew]; omega) | omega) _ | refine Below.setCell ?_ (by first | exact Nat.le_refl _ | (simp only [World.size_alloc, World.size_setCell, World.size_drew]; omega) | omega) _ | refine Below.drew ?_))⟩

theorem maColumn_any (a : Option Addr) (xss : List (List Int)) (cap : Nat) (j : Nat) (w : World) (hx : RdS w a xss) (h12 : xss.length ≤ 12) (hj : ∀ k, k < xss.length → j < (rowL xss k).length) :
    Calls Tryz.prog 85 #[.agg #[.slice a xss.length cap], .int .i64 (j : Int)] w fun e w' => ∃ a' cap', e = .returned (.slice a' xss.length cap') ∧ OwnI w' w.heap.size (.slice a' xss.length cap') (colL xss j) ∧ Below w.heap.size w w' := by
  have hlen := hx.len
  have HJ := Lib.hid hj
  clear hj
  go_enter Tryz.func85, Tryz.ntmps85
  go_wp2_with fail
  go_loopw [5, 11] (fun v i wr => ∃ k : Nat, k ≤ xss.length ∧ i = .int .i64 k ∧ OwnI wr w.heap.size v (fmap (fun i => atM xss i j) k) ∧ Below w.heap.size w wr) (fun _ i _ => xss.length - (intOf i).toNat)
  case atStart => exact ⟨0, Nat.zero_le _, rfl, OwnI.nil _ _, (by repeat (first | exact Below.refl _ _ | assumption | refine Below.alloc ?_ (by first | exact Nat.le_refl _ | (simp only [World.size_alloc, World.size_setCell, World.size_drew]; omega) | omega) _ | refine Below.setCell ?_ (by first | exact Nat.le_refl _ | (simp only [World.size_alloc, World.size_setCell, World.size_drew]; omega) | omega) _ | refine Below.drew ?_))⟩
  case round =>
    obtain ⟨k, hk, rfl, hown, hb⟩ := hrel
    have hbs := hb.size
    by_cases hlt : k < xss.length
    · obtain ⟨b, off, a', cap', rfl, hbl, hc, hr⟩ := (hx.below hb).row k hlt
      have h5 := HJ.out k hlt
      have k1 : (k : Int) < (xss.length : Int) := by omega
      obtain ⟨b2, off2, rfl, hbl2, hc2⟩ := hr.cell j h5
      have hrl := hr.len
      have j1 : (j : Int) < ((rowL xss k).length : Int) := by omega
      have HN : Hid (fmap (fun i => atM xss i j) (k+1) = fmap (fun i => atM xss i j) k ++ [nth (rowL xss k) j]) := fmap_succ _ _
      obtain ⟨ys, hys⟩ : ∃ ys, ys = fmap (fun i => atM xss i j) k := ⟨_, rfl⟩
      have hyl : ys.length = k := by rw [hys, fmap_len]
      rw [← hys] at hown HN
      clear hys
      go_wp2_with (at_builtin; refine push_at rfl _ _ rfl (z := nth (rowL xss k) j) rfl hown rfl (by omega) (by omega) ?_)
      intro v3 w3 o3 hg _
      have hU := hown.lt
      have b3 := hb.trans (below_of_grown hg (fun c e => (hU c e).1) hbs)
      clear hg hown
      go_wp2_with fail
      go_roundw
      case rel => exact ⟨k + 1, by omega, by go_num, by rw [HN.out]; exact o3, b3⟩
      case measure => simp [intOf]; omega
    · obtain rfl : k = xss.length := by omega
      have hfm := hown.form
      rw [fmap_len] at hfm
      obtain ⟨a', cap', rfl⟩ := hfm
      go_wp2_with fail
      go_ret
      exact ⟨a', cap', rfl, hown, hb⟩

theorem l1All_any (a : Option Addr) (xs : List Int) (cap : Nat) (lo hi : Int) (w : World) (hx : Rd w a xs) :
    Calls Tryz.prog 83 #[.slice a xs.length cap, .int .i64 lo, .int .i64 hi] w fun e w' => e = .returned (.bool (allB xs lo hi)) ∧ w = w' := by
  have hlen := hx.len
  go_enter Tryz.func83, Tryz.ntmps83
  go_wp2_with fail
  go_loop [11] (fun i => ∃ k : Nat, k ≤ xs.length ∧ i = .int .i64 k ∧ allB (xs.take k) lo hi = true) (fun i => xs.length - (intOf i).toNat)
  case atStart => exact ⟨0, Nat.zero_le _, rfl, rfl⟩
  case round =>
    obtain ⟨k, hk, rfl, hall⟩ := hrel
    by_cases hlt : k < xs.length
    · obtain ⟨b, off, rfl, hbl, hc⟩ := hx.cell k hlt
      cases hin : inB (nth xs k) lo hi
      · have hf := Lib.hid (allB_false hlt hin)
        go_wp2_with (go_at_call 70; refine (l1In_any _ _ _ _).mono ?_; rintro e w' ⟨rfl, rfl⟩)
        go_ret
        exact ⟨ret_bool hf.out.symm, rfl⟩
      · go_wp2_with (go_at_call 70; refine (l1In_any _ _ _ _).mono ?_; rintro e w' ⟨rfl, rfl⟩)
        go_round
        case rel => exact ⟨k + 1, by omega, by go_num, by rw [allB_take _ _ _ _ hlt, hall, hin]; rfl⟩
        case measure => simp [intOf]; omega
    · go_wp2_with fail
      go_ret
      exact ⟨ret_bool (by rw [← hall, List.take_of_length_le (by omega)]), rfl⟩
theorem l1All_is {a : Option Addr} {xs : List Int} {cap : Nat} {lo hi : Int} {b : Bool} {w : World} (hx : Rd w a xs) (h : allB xs lo hi = b) (m : Nat) :
    Calls Tryz.prog 83 #[.slice a xs.length cap, .int .i64 lo, .int .i64 hi] (w.drewN m) fun e w' => e = .returned (.bool b) ∧ ∃ k, w' = w.drewN k :=
  Calls.quiet_of_same ((l1All_any a xs cap lo hi (w.drewN m) (hx.below (Joins.below_draws _ _ _))).mono (fun e w' hh => ⟨by rw [← h]; exact hh.1, hh.2.symm⟩))

theorem mostTo_succ (l : List Int) (k : Nat) : maxI (mostTo l k) (nth l k) = mostTo l (k+1) := rfl
theorem ivMost_any (a : Option Addr) (l : List Int) (cap : Nat) (w : World) (hx : Rd w a l) :
    Calls Tryz.prog 84 #[.slice a l.length cap] w fun e w' => e = .returned (.int .i64 (mostTo l l.length)) ∧ w = w' := by
  have hlen := hx.len
  go_enter Tryz.func84, Tryz.ntmps84
  go_wp2_with fail
  go_loop [3, 8] (fun m i => ∃ k : Nat, k ≤ l.length ∧ i = .int .i64 k ∧ m = .int .i64 (mostTo l k)) (fun _ i => l.length - (intOf i).toNat)
  case atStart => exact ⟨0, Nat.zero_le _, rfl, rfl⟩
  case round =>
    obtain ⟨k, hk, rfl, rfl⟩ := hrel
    by_cases hlt : k < l.length
    · obtain ⟨b, off, rfl, hbl, hc⟩ := hx.cell k hlt
      have HM := Lib.hid (mostTo_succ l k)
      go_wp2_with (go_at_call 110; refine (l1Most_any _ _ _).mono ?_; rintro e w' ⟨rfl, rfl⟩)
      go_round
      case rel => exact ⟨k + 1, by omega, by go_num, val_int HM.out⟩
      case measure => simp [intOf]; omega
    · obtain rfl : k = l.length := by omega
      go_wp2_with fail
      go_ret
      exact ⟨rfl, rfl⟩

set_option maxRecDepth 100000 in
theorem maGood_any (a : Option Addr) (xss : List (List Int)) (cap : Nat) (w : World) (hx : RdS w a xss) :
    Calls Tryz.prog 50 #[.agg #[.slice a xss.length cap]] w fun e w' => e = .returned (.bool (mxB xss)) ∧ Below w.heap.size w w' := by
  have hlen := hx.len
  have HX := Lib.hid hx
  by_cases h12 : 12 < xss.length
  · have H : Hid (mxB xss = false) := by
      rw [Hid, ← Bool.not_eq_true]
      intro h
      have := mxB_small h
      omega
    go_enter Tryz.func50, Tryz.ntmps50
    go_wp2_with fail
    go_ret
    exact ⟨ret_bool H.out.symm, (by repeat (first | exact Below.refl _ _ | assumption | refine Below.alloc ?_ (by first | exact Nat.le_refl _ | (simp only [World.size_alloc, World.size_setCell, World.size_drew]; omega) | omega) _ | refine Below.setCell ?_ (by first | exact Nat.le_refl _ | (simp only [World.size_alloc, World.size_setCell, World.size_drew]; omega) | omega) _ | refine Below.drew ?_))⟩
  · go_enter Tryz.func50, Tryz.ntmps50
    go_wp2_with fail
    go_loopw [17] (fun i wr => ∃ k : Nat, k ≤ xss.length ∧ i = .int .i64 k ∧ Hid (∀ j, j < k → rowG xss j) ∧ wr = (w.alloc (.cells #[.slice a xss.length cap] 45))) (fun i _ => xss.length - (intOf i).toNat)
    case atStart => exact ⟨0, Nat.zero_le _, rfl, fun j hj => by omega, rfl⟩
    case round =>
      obtain ⟨k, hk, rfl, HR, rfl⟩ := hrel
      by_cases hlt : k < xss.length
      · obtain ⟨b, off, a', cap', rfl, hbl, hc, hr⟩ := (HX.out.below (show Below w.heap.size w (w.alloc (.cells #[.slice a xss.length cap] 45)) from (by repeat (first | exact Below.refl _ _ | assumption | refine Below.alloc ?_ (by first | exact Nat.le_refl _ | (simp only [World.size_alloc, World.size_setCell, World.size_drew]; omega) | omega) _ | refine Below.setCell ?_ (by first | exact Nat.le_refl _ | (simp only [World.size_alloc, World.size_setCell, World.size_drew]; omega) | omega) _ | refine Below.drew ?_)))).row k hlt
        have k1 : (k : Int) < (xss.length : Int) := by omega
        by_cases hq : (rowL xss k).length = xss.length
        · have hqq : (((rowL xss k).length : Int) != (xss.length : Int)) = false := by simp [hq]
          have HQ := Lib.hid hq
          have hrl := hr.len
          cases hal : allB (rowL xss k) 0 12
          · have H : Hid (mxB xss = false) := by
              rw [Hid, ← Bool.not_eq_true]
              intro h
              rw [(rowG_of h hlt).2.1] at hal
              cases hal
            have HA := Lib.hid hal
            clear hq hal
            go_wp2_with fail
            refine (l1All_any _ _ _ _ _ _ hr).mono ?_
            rintro e w' ⟨rfl, rfl⟩
            rw [HA.out]
            go_wp2_with fail
            go_ret
            exact ⟨ret_bool H.out.symm, (by repeat (first | exact Below.refl _ _ | assumption | refine Below.alloc ?_ (by first | exact Nat.le_refl _ | (simp only [World.size_alloc, World.size_setCell, World.size_drew]; omega) | omega) _ | refine Below.setCell ?_ (by first | exact Nat.le_refl _ | (simp only [World.size_alloc, World.size_setCell, World.size_drew]; omega) | omega) _ | refine Below.drew ?_))⟩
          · have HA := Lib.hid hal
            by_cases hm : mostTo (rowL xss k) (rowL xss k).length = 0
            · have H : Hid (mxB xss = false) := by
                rw [Hid, ← Bool.not_eq_true]
                intro h
                exact (rowG_of h hlt).2.2.1 hm
              have HM := Lib.hid hm
              clear hq hal hm
              go_wp2_with fail
              refine (l1All_any _ _ _ _ _ _ hr).mono ?_
              rintro e w' ⟨rfl, rfl⟩
              rw [HA.out]
              go_wp2_with fail
              refine (ivMost_any _ _ _ _ hr).mono ?_
              rintro e w' ⟨rfl, rfl⟩
              rw [HM.out]
              go_wp2_with fail
              go_ret
              exact ⟨ret_bool H.out.symm, (by repeat (first | exact Below.refl _ _ | assumption | refine Below.alloc ?_ (by first | exact Nat.le_refl _ | (simp only [World.size_alloc, World.size_setCell, World.size_drew]; omega) | omega) _ | refine Below.setCell ?_ (by first | exact Nat.le_refl _ | (simp only [World.size_alloc, World.size_setCell, World.size_drew]; omega) | omega) _ | refine Below.drew ?_))⟩
            · have hmm : (mostTo (rowL xss k) (rowL xss k).length == 0) = false := by simp [hm]
              have HM := Lib.hid hm
              have HRD := Lib.hid hr
              clear hq hal hm
              obtain ⟨M, hM⟩ : ∃ M, M = mostTo (rowL xss k) (rowL xss k).length := ⟨_, rfl⟩
              have HMM := Lib.hid hM
              rw [← hM] at hmm
              clear hM
              go_wp2_with fail
              refine (l1All_any _ _ _ _ _ _ hr).mono ?_
              rintro e w' ⟨rfl, rfl⟩
              rw [HA.out]
              go_wp2_with fail
              refine (ivMost_any _ _ _ _ hr).mono ?_
              rintro e w' ⟨rfl, rfl⟩
              rw [← HMM.out]
              clear hr
              go_wp2_with fail
              go_loop [38] (fun i => ∃ q : Nat, q ≤ (rowL xss k).length ∧ i = .int .i64 q ∧ Hid (∀ j, j < q → j < k → atM xss k j = 0)) (fun i => (rowL xss k).length - (intOf i).toNat)
              case atStart => exact ⟨0, Nat.zero_le _, rfl, fun j hj => by omega⟩
              case round =>
                obtain ⟨q, hq2, rfl, HU⟩ := hrel
                by_cases hlt2 : q < (rowL xss k).length
                · obtain ⟨b2, off2, rfl, hbl2, hc2⟩ := HRD.out.cell q hlt2
                  have q1 : (q : Int) < ((rowL xss k).length : Int) := by omega
                  by_cases hqk : q < k
                  · have hqi : (q : Int) < (k : Int) := by omega
                    by_cases hp : 0 < nth (rowL xss k) q
                    · have H : Hid (mxB xss = false) := by
                        rw [Hid, ← Bool.not_eq_true]
                        intro h
                        have := (rowG_of h hlt).2.2.2 q hqk
                        rw [atM] at this
                        omega
                      go_wp2_with fail
                      go_ret
                      exact ⟨ret_bool H.out.symm, (by repeat (first | exact Below.refl _ _ | assumption | refine Below.alloc ?_ (by first | exact Nat.le_refl _ | (simp only [World.size_alloc, World.size_setCell, World.size_drew]; omega) | omega) _ | refine Below.setCell ?_ (by first | exact Nat.le_refl _ | (simp only [World.size_alloc, World.size_setCell, World.size_drew]; omega) | omega) _ | refine Below.drew ?_))⟩
                    · have HZ : Hid (atM xss k q = 0) := by
                        have := (allB_nth HA.out hlt2).1
                        rw [Hid, atM]; omega
                      go_wp2_with fail
                      go_round
                      case rel =>
                        refine ⟨q + 1, by omega, by go_num, fun j hj hjk => ?_⟩
                        by_cases e : j = q
                        · rw [e]; exact HZ.out
                        · exact HU.out j (by omega) hjk
                      case measure => simp [intOf]; omega
                  · have hqi : ¬ (q : Int) < (k : Int) := by omega
                    go_wp2_with fail
                    go_round
                    case rel =>
                      refine ⟨q + 1, by omega, by go_num, fun j hj hjk => HU.out j (by omega) hjk⟩
                    case measure => simp [intOf]; omega
                · have HG : Hid (rowG xss k) := ⟨HQ.out, HA.out, HM.out, fun j hj => HU.out j (by rw [HQ.out] at hlt2; rw [HQ.out] at hq2; have := HQ.out; omega) hj⟩
                  go_wp2_with fail
                  go_roundw
                  case rel =>
                    refine ⟨k + 1, by omega, by go_num, fun j hj => ?_, ?_⟩
                    · by_cases e : j = k
                      · rw [e]; exact HG.out
                      · exact HR.out j (by omega)
                    · first | rfl | trivial
                  case measure => simp [intOf]; omega
        · have hqq : (((rowL xss k).length : Int) != (xss.length : Int)) = true := by simp; omega
          have H : Hid (mxB xss = false) := by
            rw [Hid, ← Bool.not_eq_true]
            intro h
            exact hq (mxB_len h hlt)
          clear hq
          go_wp2_with fail
          go_ret
          exact ⟨ret_bool H.out.symm, (by repeat (first | exact Below.refl _ _ | assumption | refine Below.alloc ?_ (by first | exact Nat.le_refl _ | (simp only [World.size_alloc, World.size_setCell, World.size_drew]; omega) | omega) _ | refine Below.setCell ?_ (by first | exact Nat.le_refl _ | (simp only [World.size_alloc, World.size_setCell, World.size_drew]; omega) | omega) _ | refine Below.drew ?_))⟩
      · obtain rfl : k = xss.length := by omega
        have HL : Hid (∀ k, k < xss.length → (rowL xss k).length = xss.length) := fun k hk => (HR.out k hk).1
        have HV : Hid (∀ k, k < xss.length → ∀ j, j < (rowL xss k).length → 0 ≤ nth (rowL xss k) j ∧ nth (rowL xss k) j ≤ 12) := fun k hk j hj => allB_nth (HR.out k hk).2.1 hj
        clear hx
        go_wp2_with fail
        go_loopw [55] (fun i wr => ∃ k : Nat, k ≤ xss.length ∧ i = .int .i64 k ∧ Hid (∀ j, j < k → colG xss j) ∧ Below w.heap.size w wr ∧ wr.cell? ⟨w.heap.size, 0, none⟩ = some (.slice a xss.length cap) ∧ w.heap.size < wr.heap.size) (fun i _ => xss.length - (intOf i).toNat)
        case atStart => exact ⟨0, Nat.zero_le _, rfl, fun j hj => by omega, (by repeat (first | exact Below.refl _ _ | assumption | refine Below.alloc ?_ (by first | exact Nat.le_refl _ | (simp only [World.size_alloc, World.size_setCell, World.size_drew]; omega) | omega) _ | refine Below.setCell ?_ (by first | exact Nat.le_refl _ | (simp only [World.size_alloc, World.size_setCell, World.size_drew]; omega) | omega) _ | refine Below.drew ?_)), by simp, by simp⟩
        case round =>
          obtain ⟨q, hq, rfl, HC, hb, hcell, hsz⟩ := hrel
          have hbs := hb.size
          by_cases hlt : q < xss.length
          · have HCL := Lib.hid (maColumn_any a xss cap q wr (HX.out.below hb) (by omega) (fun k hk => by rw [HL.out k hk]; exact hlt))
            by_cases hm : mostTo (colL xss q) (colL xss q).length = 0
            · have H : Hid (mxB xss = false) := by
                rw [Hid, ← Bool.not_eq_true]
                intro h
                have := colG_of h hlt
                rw [colL_len] at hm
                exact this hm
              have HM := Lib.hid hm
              clear hm
              go_wp2_with fail
              refine HCL.out.mono ?_
              rintro e w2 ⟨a2, c2, rfl, hown, hb2⟩
              have HCC := Lib.hid (ivMost_any a2 (colL xss q) c2 w2 hown.rd)
              rw [HM.out, colL_len] at HCC
              go_wp2_with fail
              refine HCC.out.mono ?_
              rintro e w' ⟨rfl, rfl⟩
              go_wp2_with fail
              go_ret
              exact ⟨ret_bool H.out.symm, hb.trans (hb2.mono hbs)⟩
            · have HM : Hid (colG xss q) := by rw [Hid, colG]; rw [colL_len] at hm; exact hm
              obtain ⟨M, hM⟩ : ∃ M, M = mostTo (colL xss q) (colL xss q).length := ⟨_, rfl⟩
              have HMM := Lib.hid hM
              rw [← hM] at hm
              have hmm : (M == 0) = false := by simp [hm]
              clear hM hm
              go_wp2_with fail
              refine HCL.out.mono ?_
              rintro e w2 ⟨a2, c2, rfl, hown, hb2⟩
              have HCC := Lib.hid (ivMost_any a2 (colL xss q) c2 w2 hown.rd)
              rw [← HMM.out, colL_len] at HCC
              have hcell2 := (hb2.cell (p := ⟨w.heap.size, 0, none⟩) hsz).trans hcell
              have hs2 := hb2.size
              go_wp2_with fail
              refine HCC.out.mono ?_
              rintro e w' ⟨rfl, rfl⟩
              go_wp2_with fail
              go_roundw
              case rel =>
                refine ⟨q + 1, by omega, by go_num, fun j hj => ?_, hb.trans (hb2.mono hbs), hcell2, by omega⟩
                by_cases e : j = q
                · rw [e]; exact HM.out
                · exact HC.out j (by omega)
              case measure => simp [intOf]; omega
          · obtain rfl : q = xss.length := by omega
            have HS := Lib.hid (maSum_any a xss cap wr (HX.out.below hb) (by omega) HL.out HV.out)
            have H : Hid (decide (matS xss xss.length ≤ 12) = mxB xss) := (mx_of HR.out HC.out).symm
            have hge : -9223372036854775808 ≤ matS xss xss.length ∧ matS xss xss.length ≤ 9223372036854775807 ∨ True := .inr trivial
            go_wp2_with fail
            refine HS.out.mono ?_
            rintro e w2 ⟨rfl, hb2⟩
            go_wp2_with fail
            go_ret
            exact ⟨ret_bool H.out, hb.trans (hb2.mono hbs)⟩

theorem ivOrder_any (a : Option Addr) (cs : List Int) (n cap : Nat) (w : World) (hx : Rd w a cs) (hl : cs.length = n * 2) (hn : n ≤ 10) :
    Calls Tryz.prog 39 #[.slice a n cap] w fun e w' => ∃ a' cap', e = .returned (.agg #[.int .i64 n, .slice a' n cap']) ∧ OwnI w' w.heap.size (.slice a' n cap') (ivo cs n n) ∧ Below w.heap.size w w' := by
  obtain ⟨i0, hi, hz0, hz1, hz2⟩ := info_parts infoInt
  have HL := Lib.hid hl
  clear hl
  go_enter Tryz.func39, Tryz.ntmps39
  go_wp2_with fail
  go_loopw [14] (fun i wr => ∃ (k : Nat) (v : Value), k ≤ n ∧ i = .int .i64 k ∧ OwnI wr (w.heap.size + 2) v (ivo cs n k) ∧ Below w.heap.size w wr ∧ Var2 wr w.heap.size (.int .i64 0) (.slice none 0 0) ∧ Var2 wr (w.heap.size + 1) (.int .i64 n) v) (fun i _ => n - (intOf i).toNat)
  case atStart => exact ⟨0, .slice none 0 0, Nat.zero_le _, rfl, OwnI.nil _ _, (by repeat (first | exact Below.refl _ _ | assumption | refine Below.alloc ?_ (by first | exact Nat.le_refl _ | (simp only [World.size_alloc, World.size_setCell, World.size_drew]; omega) | omega) _ | refine Below.setCell ?_ (by first | exact Nat.le_refl _ | (simp only [World.size_alloc, World.size_setCell, World.size_drew]; omega) | omega) _ | refine Below.drew ?_)), (Var2.new w _ _ _).alloc _, by simpa using Var2.new (w.alloc (.cells #[.int .i64 0, .slice none 0 0] 31)) (.int .i64 n) (.slice none 0 0) 31⟩
  case round =>
    obtain ⟨k, v, hk, rfl, hown, hb, hR, hV⟩ := hrel
    obtain ⟨av, cv, rfl⟩ := hown.form
    rw [ivo_len] at hown hV
    obtain ⟨wo, rfl⟩ : ∃ wo : World, wo = wr := ⟨_, rfl⟩
    have hzr := hb.size
    by_cases hlt : k < n
    · obtain ⟨b, off, rfl, hbl, hc1, hc2⟩ := (hx.below hb).pair HL.out hlt
      go_wp2_with fail
      go_loopw [6, 20] (fun s i wr => ∃ j : Nat, j ≤ n ∧ i = .int .i64 j ∧ s = .int .i64 (befTo cs (rgt cs k) j) ∧ Below wo.heap.size wo wr ∧ Box2 wr wo.heap.size (.int .i64 (lft cs k)) (.int .i64 (rgt cs k))) (fun _ i _ => n - (intOf i).toNat)
      case atStart => exact ⟨0, Nat.zero_le _, rfl, rfl, (by repeat (first | exact Below.refl _ _ | assumption | refine Below.alloc ?_ (by first | exact Nat.le_refl _ | (simp only [World.size_alloc, World.size_setCell, World.size_drew]; omega) | omega) _ | refine Below.setCell ?_ (by first | exact Nat.le_refl _ | (simp only [World.size_alloc, World.size_setCell, World.size_drew]; omega) | omega) _ | refine Below.drew ?_)), Box2.new wo _ _ _⟩
      case round =>
        obtain ⟨j, hj, rfl, rfl, hbj, hBj⟩ := hrel
        have ⟨zB, cB, dB⟩ := hBj
        have hzj := hbj.size
        by_cases hjl : j < n
        · obtain ⟨b2, off2, e2, hbl2, hd1, hd2⟩ := (hx.below (hb.trans (hbj.mono hb.size))).pair HL.out hjl
          simp only [Option.some.injEq, Addr.mk.injEq, and_true] at e2
          obtain ⟨rfl, rfl⟩ := e2
          have hbs := befTo_small cs (rgt cs k) (k := j) (by omega)
          have hor := Lib.hid (or_bit (b := befTo cs (rgt cs k) j) (k := j) (by omega) (by omega))
          clear hbs
          by_cases hlt2 : rgt cs k < lft cs j
          · have HS : Hid (befTo cs (rgt cs k) (j+1) = befTo cs (rgt cs k) j ||| 2 ^ j) := by rw [Hid, befTo, if_pos hlt2]
            go_wp2_with fail
            go_roundw
            case rel => exact ⟨j + 1, by omega, by go_num, val_int (by rw [hor.out, HS.out]), (by repeat (first | exact Below.refl _ _ | assumption | refine Below.alloc ?_ (by first | exact Nat.le_refl _ | (simp only [World.size_alloc, World.size_setCell, World.size_drew]; omega) | omega) _ | refine Below.setCell ?_ (by first | exact Nat.le_refl _ | (simp only [World.size_alloc, World.size_setCell, World.size_drew]; omega) | omega) _ | refine Below.drew ?_)), hBj.below (by repeat (first | exact Below.refl _ _ | assumption | refine Below.alloc ?_ (by first | exact Nat.le_refl _ | (simp only [World.size_alloc, World.size_setCell, World.size_drew]; omega) | omega) _ | refine Below.setCell ?_ (by first | exact Nat.le_refl _ | (simp only [World.size_alloc, World.size_setCell, World.size_drew]; omega) | omega) _ | refine Below.drew ?_))⟩
            case measure => simp [intOf]; omega
          · have HS : Hid (befTo cs (rgt cs k) (j+1) = befTo cs (rgt cs k) j) := by rw [Hid, befTo, if_neg hlt2]
            go_wp2_with fail
            go_roundw
            case rel => exact ⟨j + 1, by omega, by go_num, val_int (by rw [HS.out]), (by repeat (first | exact Below.refl _ _ | assumption | refine Below.alloc ?_ (by first | exact Nat.le_refl _ | (simp only [World.size_alloc, World.size_setCell, World.size_drew]; omega) | omega) _ | refine Below.setCell ?_ (by first | exact Nat.le_refl _ | (simp only [World.size_alloc, World.size_setCell, World.size_drew]; omega) | omega) _ | refine Below.drew ?_)), hBj.below (by repeat (first | exact Below.refl _ _ | assumption | refine Below.alloc ?_ (by first | exact Nat.le_refl _ | (simp only [World.size_alloc, World.size_setCell, World.size_drew]; omega) | omega) _ | refine Below.setCell ?_ (by first | exact Nat.le_refl _ | (simp only [World.size_alloc, World.size_setCell, World.size_drew]; omega) | omega) _ | refine Below.drew ?_))⟩
            case measure => simp [intOf]; omega
        · obtain rfl : j = n := by omega
          have o2 := hown.below hbj (Nat.le_refl _)
          have R2 := hR.below hbj
          have V2 := hV.below hbj
          have ⟨⟨zV, cV, dV⟩, fV, gV⟩ := V2
          have bwj := hb.trans (hbj.mono hb.size)
          have HE : Hid (((befTo cs (rgt cs k) j : Nat) : Int) = ivE cs j k) := rfl
          rw [HE.out]
          clear hc1 hc2
          go_wp2_with (at_builtin; refine wpList_append_own _ rfl _ _ 24 rfl (w.heap.size + 2) 3 i0 (.int .i64 0) 1 8 Tryz.underlying24 hi hz0 hz1 hz2 rfl (by decide) (.slice av k cv) k ((ivo cs j k).map (Value.int .i64)) rfl (by have h := o2.alloc (.cells #[.int .i64 (ivE cs j k)] 3); unfold OwnI at h; rw [ivo_len] at h; exact h) ⟨wr.heap.size, 0, none⟩ 1 1 [.int .i64 (ivE cs j k)] rfl rfl (cell_one_new _ _ _) (by intro u hu; simp at hu; subst hu; rfl) (by unfold maxLen; omega) (by omega) (by simp; omega) ?_)
          intro v' w6 hown6 hgrow _
          have hg2 := grown_alloc_set hgrow
          have o6 : OwnI w6 (w.heap.size + 2) v' (ivo cs j (k + 1)) := by
            unfold OwnI
            rw [ivo_len, ivo, fmap_succ, List.map_append]
            exact hown6
          obtain ⟨a6, c6, rfl⟩ := o6.form
          rw [ivo_len] at o6 ⊢
          have hU := o2.lt
          have R6 := R2.kept hg2 (ne_own (fun c e => by have := hU c e; omega))
          have V6 := V2.kept hg2 (ne_own (fun c e => by have := hU c e; omega))
          have bw6 := bwj.trans (below_of_grown hg2 (fun c e => by have := hU c e; omega) bwj.size)
          have ⟨⟨zV6, cV6, dV6⟩, fV6, gV6⟩ := V6
          clear hown6 hgrow hU cV dV fV gV
          go_wp2_with fail
          go_roundw
          case rel => exact ⟨k + 1, _, by omega, by go_num, o6.setBelow (p := ⟨w.heap.size + 1, 1, none⟩) (show w.heap.size + 1 < w.heap.size + 2 by omega) _, bw6.setCell (p := ⟨w.heap.size + 1, 1, none⟩) (show w.heap.size ≤ w.heap.size + 1 by omega) _, R6.other (p := ⟨w.heap.size + 1, 1, none⟩) _ (show w.heap.size ≠ w.heap.size + 1 by omega), V6.set1 _⟩
          case measure => simp [intOf]; omega
    · obtain rfl : k = n := by omega
      have ⟨⟨zR, cR, dR⟩, fR, gR⟩ := hR
      have ⟨⟨zV, cV, dV⟩, fV, gV⟩ := hV
      go_wp2_with fail
      have R3 := hR.set (.int .i64 (k : Int)) (.slice av k cv)
      refine bodyPost_ret (v := .agg #[.int .i64 (k : Int), .slice av k cv]) (by have ⟨⟨_, q1, q2⟩, _, _⟩ := R3; simp [results, Tryz.results39, go_sem, q1, q2]) rfl ?_
      refine ⟨av, cv, rfl, ?_, ?_⟩
      · exact ((hown.setBelow (by simp) _).setBelow (by simp) _).mono (by omega)
      · exact (hb.setCell (by simp) _).setCell (by simp) _

end Go.Proofs.YtiodfmiielnngaaGreat.ordersAreMatrices
