/- A part of the proof of YtiodfmiielnngaaGreatTop: contracts of functions. -/
import Derived.Test.YtiodfmiielnngaaGreatRows
import Derived.WalkKit
import Derived.WalkSpells
import Derived.WalkLawsBesides
import Derived.Deep.QuietTactic
import Derived.BigQuiet
import Derived.ProofKit
import Derived.OpenShut
import Derived.ShutString
import Derived.ChangeOld
import Derived.Below
import Derived.Lib.SmallJoins
import Derived.Lib.Hide
import Derived.Shelf.Small.Bits
import Derived.Shelf.Small.Wraps
import Derived.Shelf.Strconv.Itoa0
import Derived.Shelf.Sort.Plain
import Derived.Shelf.Slices.Reverse
import Derived.Shelf.Slices.Equal
import Derived.Shelf.Slices.CompactI
import Derived.Shelf.Slices.SearchI
import Derived.Shelf.Slices.Delete
import Derived.Shelf.Slices.Cells
import Derived.Shelf.Slices.In.SortNone
import Derived.Shelf.Slices.Empties
import Derived.Shelf.Slices.Empties2
import Derived.Shelf.SlicesE.Reverse
import Derived.Shelf.SlicesE.Delete
import Derived.Sort.OwnSortedInts
import Derived.Lib.SliceRun
import Derived.Deep.RegionLaw
import Derived.Maps.AppendAt
import Derived.Deep.AppendLies
import Derived.Deep.RegionHeld3
import Derived.Lib.SlicesCompact
import Derived.Lib.RowBridge
import Derived.Shelf.Spec.SlicesInsertGrow
import Derived.Test.YtiodfmiielnngaaGreatTopP2
namespace Go.Proofs.YtiodfmiielnngaaGreat.top
open Go Go.RowKit
set_option linter.unusedVariables false
set_option linter.unusedSimpArgs false
set_option maxHeartbeats 400000
open Go.Shelf
/-- a row with a zero put in at x -/
def wdF (g : Nat → Int) (x j : Nat) : Int := if j < x then g j else if j = x then 0 else g (j-1)
/-- rows with a row of zeros put in at x -/
def inR (f : Nat → Nat → Int) (x a b : Nat) : Int := if a < x then f a b else if a = x then 0 else f (a-1) b
def grBI (f : Nat → Nat → Int) (d x i j : Nat) : Int :=
  if i < x then (if j < x then f i j else if j = x then (if x < d then f i (d-1) else 0) else if j = d then 0 else f i (j-1))
  else if i = x then (if j = d then 1 else 0)
  else (if j < x then f (i-1) j else if j = x then 0 else f (i-1) (j-1))
def grAI (f : Nat → Nat → Int) (d x i j : Nat) : Int := if i = x ∧ j = d - 1 then f x (d - 1) + 1 else f i j
theorem fmap_ins {g : Nat → Int} {n x : Nat} (hx : x ≤ n) : (fmap g n).take x ++ [0] ++ (fmap g n).drop x = fmap (wdF g x) (n+1) := by
  have hl := fmap_len g n
  have ht : ((fmap g n).take x).length = x := by rw [List.length_take]; omega
  apply List.ext_getElem?
  intro i
  by_cases hi : i < n + 1
  · have e : (fmap (wdF g x) (n+1))[i]? = some (wdF g x i) := by simp [fmap, hi]
    rw [e, wdF]
    by_cases h1 : i < x
    · rw [if_pos h1, List.append_assoc, List.getElem?_append_left (by omega), List.getElem?_take, if_pos h1]
      simp [fmap, show i < n by omega]
    · rw [if_neg h1]
      by_cases h2 : i = x
      · rw [if_pos h2, List.getElem?_append_left (by rw [List.length_append, ht, List.length_singleton]; omega), List.getElem?_append_right (by omega), ht, h2, Nat.sub_self]
        rfl
      · rw [if_neg h2, List.getElem?_append_right (by rw [List.length_append, ht, List.length_singleton]; omega), List.length_append, ht, List.length_singleton, List.getElem?_drop, show x + (i - (x + 1)) = i - 1 by omega]
        simp [fmap, show i - 1 < n by omega]
  · rw [List.getElem?_eq_none (by rw [List.length_append, List.length_append, ht, List.length_drop, List.length_singleton]; omega), List.getElem?_eq_none (by rw [fmap_len]; omega)]
theorem gr_lo {f : Nat → Nat → Int} {d x i : Nat} (hi : i < x) (hx : x < d) : ((fmap (wdF (f i) x) (d+1)).set x (wdF (f i) x d)).set d 0 = fmap (grBI f d x i) (d+1) := by
  rw [list_fmap (((fmap (wdF (f i) x) (d+1)).set x (wdF (f i) x d)).set d 0)]
  simp only [List.length_set, fmap_len]
  refine fmap_ext (fun b hb => ?_)
  rw [nth_setM (by rw [List.length_set, fmap_len]; omega), nth_setM (by rw [fmap_len]; omega), fmap_nth _ hb, grBI, if_pos hi]
  by_cases h3 : b = d
  · rw [if_pos h3, if_neg (show ¬ b < x by omega), if_neg (show ¬ b = x by omega), if_pos h3]
  · rw [if_neg h3]
    by_cases h2 : b = x
    · rw [if_pos h2, if_neg (show ¬ b < x by omega), if_pos h2, if_pos hx, wdF, if_neg (by omega), if_neg (by omega)]
    · rw [if_neg h2, if_neg h2, if_neg h3, wdF, if_neg h2]
theorem gr_end {f : Nat → Nat → Int} {d i : Nat} (hi : i < d) : fmap (wdF (f i) d) (d+1) = fmap (grBI f d d i) (d+1) :=
  fmap_ext (fun b hb => by
    rw [grBI, if_pos hi, wdF]
    by_cases h1 : b < d
    · rw [if_pos h1, if_pos h1]
    · rw [if_neg h1, if_neg h1, if_pos (by omega), if_pos (by omega), if_neg (by omega)])
theorem gr_mid {f : Nat → Nat → Int} {d x : Nat} : ((List.replicate (d+1) (0:Int)).set d 1) = fmap (grBI f d x x) (d+1) := by
  have e : ∀ b, grBI f d x x b = if b = d then 1 else 0 := fun b => by rw [grBI, if_neg (Nat.lt_irrefl x), if_pos rfl]
  rw [list_fmap ((List.replicate (d+1) (0:Int)).set d 1)]
  simp only [List.length_set, List.length_replicate]
  refine fmap_ext (fun b hb => ?_)
  rw [nth_setM (by rw [List.length_replicate]; omega), e]
  by_cases h : b = d
  · rw [if_pos h, if_pos h]
  · rw [if_neg h, if_neg h]
    simp [nth, List.getD_eq_getElem?_getD, List.getElem?_replicate, hb]
theorem gr_hi {f : Nat → Nat → Int} {d x i : Nat} (hi : x < i) : fmap (wdF (f (i-1)) x) (d+1) = fmap (grBI f d x i) (d+1) :=
  fmap_ext (fun b hb => by rw [grBI, if_neg (by omega), if_neg (by omega), wdF])
/-- the program's way: a row, a column, the exchange, one more -/
theorem gr_put {f : Nat → Nat → Int} {d x : Nat} (hx : x ≤ d) : setM (sqM (swF (fun a b => wdF (inR f x a) x b) (d+1) x x) (d+1) (d+1)) x d 1 = sqM (grBI f d x) (d+1) (d+1) := by
  rw [setM_sq (by omega) (by omega)]
  refine sqM_congr (fun a ha b hb => ?_)
  rw [grBI]
  by_cases h1 : a < x
  · have e1 : ∀ q, wdF (inR f x a) x q = if q < x then f a q else if q = x then 0 else f a (q-1) := fun q => by simp only [wdF, inR, if_pos h1]
    rw [if_neg (by omega), if_pos h1, swF, if_pos h1, Nat.add_sub_cancel, e1, e1, e1]
    by_cases h2 : b = d
    · rw [if_pos h2, if_neg (Nat.lt_irrefl x), if_pos rfl, if_neg (show ¬ b < x by omega)]
      by_cases h3 : b = x
      · rw [if_pos h3, if_neg (show ¬ x < d by omega)]
      · rw [if_neg h3, if_pos h2]
    · rw [if_neg h2]
      by_cases h3 : b = x
      · rw [if_pos h3, if_neg (show ¬ d < x by omega), if_neg (show ¬ d = x by omega), if_neg (show ¬ b < x by omega), if_pos h3, if_pos (show x < d by omega)]
      · rw [if_neg h3, if_neg h3, if_neg h3, if_neg h2]
  · rw [if_neg h1, swF, if_neg h1]
    by_cases h2 : a = x
    · rw [if_pos h2]
      by_cases h3 : b = d
      · rw [if_pos ⟨h2, h3⟩, if_pos h3]
      · rw [if_neg (fun h => h3 h.2), if_neg h3]
        simp only [wdF, inR, if_neg h1, if_pos h2, ite_self]
    · rw [if_neg (fun h => h2 h.1), if_neg h2]
      simp only [wdF, inR, if_neg h1, if_neg h2]
/-- the grown matrix of a matrix -/
theorem grL_eq {xss : List (List Int)} (hm : mxB xss = true) {x : Nat} (hx : x ≤ xss.length) : grL xss x = if (x : Int) ≤ topI xss then sqM (grAI (atM xss) xss.length x) xss.length xss.length else sqM (grBI (atM xss) xss.length x) (xss.length + 1) (xss.length + 1) := by
  unfold grL
  by_cases ht : (x : Int) ≤ topI xss
  · rw [if_pos ht, if_pos ht]
    refine sqM_congr (fun i hi j hj => ?_)
    show ((grA (enN xss) xss.length x i j : Nat) : Int) = _
    unfold grA grAI
    by_cases h : i = x ∧ j = xss.length - 1
    · rw [if_pos h, if_pos h, ← h.1, ← h.2, en_at hm hi hj]; omega
    · rw [if_neg h, if_neg h, en_at hm hi hj]; rfl
  · rw [if_neg ht, if_neg ht]
    refine sqM_congr (fun i hi j hj => ?_)
    show ((grB (enN xss) xss.length x i j : Nat) : Int) = _
    unfold grB grBI
    repeat' split
    all_goals first
      | rfl
      | (rw [en_at hm (by omega) (by omega)])

/-- may a matrix be grown by x -/
def gwB (xss : List (List Int)) (x : Int) : Bool := mxB xss && (decide (0 ≤ x) && (decide (x ≤ (xss.length : Int)) && decide (matS xss xss.length < 12)))
theorem gwB_iff {xss : List (List Int)} {x : Int} : gwB xss x = true ↔ mxB xss = true ∧ 0 ≤ x ∧ x ≤ (xss.length : Int) ∧ matS xss xss.length < 12 := by simp [gwB, and_assoc]
def gwL (xss : List (List Int)) (x : Int) : List (List Int) := if gwB xss x then grL xss x.toNat else []
theorem gwL_len (xss : List (List Int)) (x : Int) : (gwL xss x).length + totS (gwL xss x) (gwL xss x).length ≤ 1048576 := by
  unfold gwL
  split
  · rename_i h
    have ⟨hm, h0, h1, h2⟩ := gwB_iff.1 h
    have := mxB_small hm
    rw [grL_eq hm (by omega)]
    split
    · exact sq_len (by omega)
    · exact sq_len (by omega)
  · simp [totS]

/-- the matrix of the first k numbers of an ascent sequence -/
def moK (xs : List Int) : Nat → List (List Int)
  | 0 => []
  | k+1 => grL (moK xs k) (nth xs k).toNat
def moaL (xs : List Int) : List (List Int) := if ascB xs then moK xs xs.length else []
theorem grL_len {xss : List (List Int)} {x : Nat} : (grL xss x).length = if (x : Int) ≤ topI xss then xss.length else xss.length + 1 := by
  unfold grL
  split
  · rw [sqM_len]
  · rw [sqM_len]
theorem moK_ok {xs : List Int} (h : ascB xs = true) : ∀ {k : Nat}, k ≤ xs.length →
    mxB (moK xs k) = true ∧ matS (moK xs k) (moK xs k).length = (k : Int) ∧ topI (moK xs k) = clLast xs k ∧ ((moK xs k).length : Int) = clAsc xs k + 1
  | 0, _ => ⟨by show mxB [] = true; decide, by simp [moK, matS], by simp [moK, topI, clLast], by simp [moK, clAsc]⟩
  | k+1, hk => by
    have ⟨h1, h2, h3, h4⟩ := moK_ok h (k := k) (by omega)
    have ⟨h5, h6⟩ := ascB_nth h (k := k) (by omega)
    have h7 := clAsc_bnd xs k
    have h8 := (ascB_iff.1 h).1
    have hx : (nth xs k).toNat ≤ (moK xs k).length := by omega
    have ⟨g1, g2, g3⟩ := gr_mx h1 hx (by omega)
    refine ⟨g1, ?_, ?_, ?_⟩
    · show matS (grL (moK xs k) (nth xs k).toNat) (grL (moK xs k) (nth xs k).toNat).length = _
      rw [g2, h2]; omega
    · show topI (grL (moK xs k) (nth xs k).toNat) = _
      rw [g3, clLast_succ]; omega
    · show ((grL (moK xs k) (nth xs k).toNat).length : Int) = _
      rw [grL_len, ← clAsc_succ (k := k) h5, byA, h3]
      by_cases h9 : clLast xs k < nth xs k
      · rw [if_pos h9, if_neg (by omega)]; omega
      · rw [if_neg h9, if_pos (by omega)]; omega
theorem moK_gw {xs : List Int} (h : ascB xs = true) {k : Nat} (hk : k < xs.length) : gwB (moK xs k) (nth xs k) = true := by
  have ⟨h1, h2, h3, h4⟩ := moK_ok h (k := k) (by omega)
  have ⟨h5, h6⟩ := ascB_nth h hk
  have h7 := clAsc_bnd xs k
  have h8 := (ascB_iff.1 h).1
  rw [gwB_iff]
  exact ⟨h1, h5, by omega, by omega⟩
theorem moK_next {xs : List Int} (h : ascB xs = true) {k : Nat} (hk : k < xs.length) : gwL (moK xs k) (nth xs k) = moK xs (k+1) := by rw [gwL, moK_gw h hk, if_pos rfl]; rfl
theorem moK_size {xs : List Int} (h : ascB xs = true) {k : Nat} (hk : k ≤ xs.length) : (moK xs k).length + totS (moK xs k) (moK xs k).length ≤ 1048576 := by
  have ⟨h1, _⟩ := moK_ok h hk
  have h12 := mxB_small h1
  have e := mx_eta h1
  rw [e]
  exact sq_len (by omega)
theorem moaL_len (xs : List Int) : (moaL xs).length + totS (moaL xs) (moaL xs).length ≤ 1048576 := by
  unfold moaL
  split
  · rename_i h
    exact moK_size h (Nat.le_refl _)
  · simp [totS]

theorem ag_ord {xs : List Int} (h : ascB xs = true) : ∀ i, i ≤ xs.length → ∀ j, j < i → lft (agC xs i).1 j ≤ rgt (agC xs i).1 j
  | 0, _, j, hj => by omega
  | 1, hi, j, hj => by
    obtain rfl : j = 0 := by omega
    rw [ag_one h (by omega)]; decide
  | i+2, hi, j, hj => by
    have ih := ag_ord h (i+1) (by omega)
    have hl := agC_len xs (i+1)
    have hp := ag_ok h i (by omega)
    have ⟨_, hmk, _⟩ := ag_next h (show i + 1 < xs.length by omega) hl hp
    have ht := hp.top
    have hd := hp.d
    have hx0 := (ascB_nth h (show i + 1 < xs.length by omega)).1
    rw [agC]
    simp only [agL]
    cases ho : opnB (agC xs (i+1)).1 (i+1) (nth xs (i+1)) (agC xs (i+1)).2
    · have h2 := of_decide_eq_false ho
      have ⟨g1, g2⟩ : nth xs (i+1) ≤ dTo (agC xs (i+1)).1 (agC xs (i+1)).2 (i+1) ∧ 0 < (agC xs (i+1)).2 := Classical.byContradiction fun h => h2 h
      simp only [Bool.false_eq_true, if_false]
      by_cases e : j = i + 1
      · subst e
        rw [lft_end hl, rgt_end hl]; omega
      · rw [lft_app hl (by omega), rgt_app hl (by omega)]
        exact ih j (by omega)
    · have hl2 : (opnV (agC xs (i+1)).1 (nth xs (i+1)) (agC xs (i+1)).2 (i+1)).length = (i + 1) * 2 := prs_len _ _ _
      simp only [if_true]
      by_cases e : j = i + 1
      · subst e
        rw [lft_end hl2, rgt_end hl2]; exact hmk
      · rw [lft_app hl2 (by omega), rgt_app hl2 (by omega), opnV, prs_lft _ _ (by omega), prs_rgt _ _ (by omega)]
        have := ih j (by omega)
        unfold opnL opnR
        split <;> split <;> (try split) <;> omega
theorem ag_good {xs : List Int} (h : ascB xs = true) (h10 : xs.length ≤ 10) : goodV (agC xs xs.length).1 xs.length = true := by
  rw [goodV_iff]
  refine ⟨h10, fun j hj => ?_⟩
  have h1 := ag_ord h xs.length (Nat.le_refl _) j hj
  obtain ⟨i, hi⟩ : ∃ i, xs.length = i + 1 := ⟨xs.length - 1, by omega⟩
  have hp := ag_ok h i (by omega)
  rw [← hi] at hp
  have h2 := hp.bd j hj
  have h3 := hp.asc
  have h4 := ascTo_le xs xs.length
  rw [wrongB_no]; omega
def aoO (xs : List Int) : Int := if agB xs then (xs.length : Int) else 0
def aoL (xs : List Int) : List Int := if agB xs then ivo (agC xs xs.length).1 xs.length xs.length else []
theorem agB_iff {xs : List Int} : agB xs = true ↔ ascB xs = true ∧ xs.length ≤ 10 := by simp [agB]
theorem aoL_len (xs : List Int) : (aoL xs).length ≤ 1048576 := by
  unfold aoL
  split
  · rename_i h; have := (agB_iff.1 h).2; rw [ivo_len]; omega
  · simp

theorem cntP_snoc {cs : List Int} {m a b : Nat} {l r : Int} (hl : cs.length = m * 2) : cntP (cs ++ [l, r]) (m+1) a b = cntP cs m a b + if l = (a : Int) ∧ r = (b : Int) then 1 else 0 := by
  rw [cntP, lft_end hl, rgt_end hl]
  congr 1
  have : ∀ k, k ≤ m → cntP (cs ++ [l, r]) k a b = cntP cs k a b := by
    intro k
    induction k with
    | zero => intro _; rfl
    | succ k ih => intro hk; rw [cntP, cntP, ih (by omega), lft_app hl (by omega), rgt_app hl (by omega)]
  exact this m (Nat.le_refl _)
/-- how a level that is parted moves the numbers of a matrix -/
def opF (g : Nat → Nat → Int) (k m a b : Nat) : Int :=
  if a < m then (if b < m then g a b else if b = m then (if m < k then g a (k-1) else 0) else if b = k then 0 else g a (b-1))
  else if a = m then 0
  else (if b < m then g (a-1) b else if b = m then 0 else g (a-1) (b-1))
theorem opF_add (g h : Nat → Nat → Int) (k m a b : Nat) : opF (fun a b => g a b + h a b) k m a b = opF g k m a b + opF h k m a b := by
  simp only [opF]
  repeat' split
  all_goals omega
theorem opF_congr {g h : Nat → Nat → Int} (e : ∀ a b, g a b = h a b) (k m a b : Nat) : opF g k m a b = opF h k m a b := by
  have : g = h := funext fun a => funext fun b => e a b
  rw [this]
theorem opF_zero (k m a b : Nat) : opF (fun _ _ => 0) k m a b = 0 := by
  unfold opF
  repeat' split
  all_goals rfl
theorem op_ind {l r : Int} {k m a b : Nat} (h0 : 0 ≤ l) (h1 : l ≤ r) (h2 : r ≤ (k : Int) - 1) (hm : m ≤ k) (ha : a ≤ k) (hb : b ≤ k) :
    (if opnL l (m : Int) = (a : Int) ∧ opnR l r (m : Int) (k : Int) = (b : Int) then (1 : Int) else 0) = opF (fun a b => if l = (a : Int) ∧ r = (b : Int) then 1 else 0) k m a b := by
  obtain ⟨L, rfl⟩ := Int.eq_ofNat_of_zero_le h0
  obtain ⟨R, rfl⟩ := Int.eq_ofNat_of_zero_le (Int.le_trans h0 h1)
  by_cases p1 : m ≤ L
  · have e1 : opnL (L : Int) (m : Int) = ((L + 1 : Nat) : Int) := by rw [opnL, if_pos (by omega)]; omega
    have e2 : opnR (L : Int) (R : Int) (m : Int) (k : Int) = ((R + 1 : Nat) : Int) := by rw [opnR, if_pos (by omega), if_neg (by omega)]; omega
    rw [e1, e2]
    simp only [opF]
    repeat' split
    all_goals omega
  · have e1 : opnL (L : Int) (m : Int) = (L : Int) := by rw [opnL, if_neg (by omega)]
    rw [e1]
    by_cases p2 : m ≤ R
    · by_cases p3 : R + 1 = k
      · have e2 : opnR (L : Int) (R : Int) (m : Int) (k : Int) = (m : Int) := by rw [opnR, if_pos (by omega), if_pos (by omega)]
        rw [e2]
        simp only [opF]
        repeat' split
        all_goals omega
      · have e2 : opnR (L : Int) (R : Int) (m : Int) (k : Int) = ((R + 1 : Nat) : Int) := by rw [opnR, if_pos (by omega), if_neg (by omega)]; omega
        rw [e2]
        simp only [opF]
        repeat' split
        all_goals omega
    · have e2 : opnR (L : Int) (R : Int) (m : Int) (k : Int) = (R : Int) := by rw [opnR, if_neg (by omega)]
      rw [e2]
      simp only [opF]
      repeat' split
      all_goals omega
theorem cnt_op {cs : List Int} {n k m a b : Nat} (hb : ∀ j, j < n → 0 ≤ lft cs j ∧ lft cs j ≤ rgt cs j ∧ rgt cs j ≤ (k : Int) - 1) (hm : m ≤ k) (ha : a ≤ k) (hbk : b ≤ k) : ∀ q, q ≤ n → cntP (opnV cs (m : Int) (k : Int) n) q a b = opF (fun a b => cntP cs q a b) k m a b
  | 0, _ => by
    show (0 : Int) = _
    exact (opF_zero k m a b).symm
  | q+1, hq => by
    have h := hb q (by omega)
    rw [cntP, cnt_op hb hm ha hbk q (by omega), opnV, prs_lft _ _ (by omega), prs_rgt _ _ (by omega), op_ind h.1 h.2.1 h.2.2 hm ha hbk, ← opF_add]
    exact opF_congr (fun a b => by rw [cntP]) k m a b
theorem op_gr {f : Nat → Nat → Int} {k m a b : Nat} : grBI f k m a b = opF f k m a b + if m = a ∧ k = b then 1 else 0 := by
  unfold grBI opF
  by_cases c1 : a < m
  · rw [if_pos c1, if_pos c1, if_neg (show ¬ (m = a ∧ k = b) by omega), Int.add_zero]
  · rw [if_neg c1, if_neg c1]
    by_cases c2 : a = m
    · rw [if_pos c2, if_pos c2]
      by_cases c3 : b = k
      · rw [if_pos c3, if_pos ⟨c2.symm, c3.symm⟩]; rfl
      · rw [if_neg c3, if_neg (fun h => c3 h.2.symm)]; rfl
    · rw [if_neg c2, if_neg c2, if_neg (show ¬ (m = a ∧ k = b) from fun h => c2 h.1.symm), Int.add_zero]
/-- the intervals that are built are counted by the matrix that is grown -/
theorem ag_cnt {xs : List Int} (h : ascB xs = true) : ∀ i, i ≤ xs.length → ∀ a b, a < (moK xs i).length → b < (moK xs i).length → cntP (agC xs i).1 i a b = atM (moK xs i) a b
  | 0, _, a, b, ha, _ => by simp [moK] at ha
  | 1, hi, a, b, ha, hb => by
    have ⟨h5, h6⟩ := ascB_nth h (k := 0) (by omega)
    rw [bndTo_zero] at h6
    have e0 : nth xs 0 = 0 := by omega
    have em : moK xs 1 = [[1]] := by
      show grL [] (nth xs 0).toNat = _
      rw [e0]; decide
    rw [em] at ha hb
    have ha0 : a = 0 := by simpa using ha
    have hb0 : b = 0 := by simpa using hb
    subst ha0 hb0
    rw [ag_one h hi, em]; decide
  | i+2, hi, a, b, ha, hb => by
    have ih := ag_cnt h (i+1) (by omega)
    have hp := ag_ok h i (by omega)
    have hl := agC_len xs (i+1)
    have ⟨hop, htop, _⟩ := ag_next h (i := i) (by omega) hl hp
    have ⟨m1, m2, m3, m4⟩ := moK_ok h (k := i+1) (by omega)
    have ⟨h5, h6⟩ := ascB_nth h (k := i+1) (by omega)
    obtain ⟨x, hx⟩ := Int.eq_ofNat_of_zero_le h5
    obtain ⟨k, hk⟩ : ∃ k : Nat, (agC xs (i+1)).2 = (k : Int) := ⟨ascTo xs (i+1) + 1, by have := hp.asc; omega⟩
    have hlen : (moK xs (i+1)).length = k := by
      have := hp.asc
      rw [clAsc, if_neg (by omega)] at m4
      omega
    have hor := ag_ord h (i+1) (by omega)
    have hbd : ∀ j, j < i+1 → 0 ≤ lft (agC xs (i+1)).1 j ∧ lft (agC xs (i+1)).1 j ≤ rgt (agC xs (i+1)).1 j ∧ rgt (agC xs (i+1)).1 j ≤ (k : Int) - 1 := fun j hj => by
      have h7 := hp.bd j hj
      have h8 := hor j hj
      omega
    have hX : x ≤ (moK xs (i+1)).length := by omega
    have heq := grL_eq m1 hX
    have emo : moK xs (i+2) = grL (moK xs (i+1)) x := by show grL (moK xs (i+1)) (nth xs (i+1)).toNat = _; rw [hx, Int.toNat_natCast]
    have htt : ((x : Int) ≤ topI (moK xs (i+1))) ↔ riseB xs (i+1) = false := by
      rw [m3, clLast, if_neg (by omega), ← Bool.not_eq_true, riseB_iff, hx]
      simp only [Nat.add_sub_cancel]
      omega
    show cntP (agL (agC xs (i+1)).1 (i+1) (nth xs (i+1)) (agC xs (i+1)).2) (i+2) a b = _
    rw [agL, hop, emo, hx, hk]
    rw [emo] at ha hb
    by_cases ht : (x : Int) ≤ topI (moK xs (i+1))
    · rw [htt.1 ht, if_neg (by simp), cntP_snoc hl]
      rw [if_pos ht] at heq
      rw [heq, sqM_len, hlen] at ha hb
      rw [heq, hlen, sqM_at ha hb, ih a b (by omega) (by omega), grAI]
      by_cases e : a = x ∧ b = k - 1
      · rw [if_pos e, if_pos (by omega), e.1, e.2]
      · rw [if_neg e, if_neg (by omega), Int.add_zero]
    · have hrt : riseB xs (i+1) = true := by
        cases hr : riseB xs (i+1)
        · exact absurd (htt.2 hr) ht
        · rfl
      have hl2 : (opnV (agC xs (i+1)).1 (x : Int) (k : Int) (i+1)).length = (i+1) * 2 := prs_len _ _ _
      rw [hrt, if_pos rfl, cntP_snoc hl2]
      rw [if_neg ht] at heq
      rw [heq, sqM_len, hlen] at ha hb
      rw [heq, hlen, sqM_at ha hb, cnt_op hbd (by omega) (by omega) (by omega) (i+1) (Nat.le_refl _), op_gr]
      have e1 : opF (fun a b => cntP (agC xs (i+1)).1 (i+1) a b) k x a b = opF (atM (moK xs (i+1))) k x a b := by
        unfold opF
        repeat' split
        all_goals first | rfl | (exact ih _ _ (by omega) (by omega))
      rw [e1]
      congr 1
      by_cases e : x = a ∧ k = b
      · rw [if_pos e, if_pos (by omega)]
      · rw [if_neg e, if_neg (by omega)]
/-- the intervals of an ascent sequence: the ends of their order, whose matrix is that of the sequence -/
theorem ag_canon {xs : List Int} (h : ascB xs = true) (h10 : xs.length ≤ 10) :
    endp (ivo (agC xs xs.length).1 xs.length xs.length) xs.length = (agC xs xs.length).1 ∧ (sets (ivo (agC xs xs.length).1 xs.length xs.length)).length = (moK xs xs.length).length ∧ moL (xs.length : Int) (ivo (agC xs xs.length).1 xs.length xs.length) = moK xs xs.length ∧ (∀ i, i < xs.length → lv (ivo (agC xs xs.length).1 xs.length xs.length) i = lft (agC xs xs.length).1 i ∧ rtE (ivo (agC xs xs.length).1 xs.length xs.length) i = rgt (agC xs xs.length).1 i) := by
  have m1 := (moK_ok h (Nat.le_refl xs.length)).1
  have m4 := (moK_ok h (Nat.le_refl xs.length)).2.2.2
  have hb : ∀ j, j < xs.length → 0 ≤ lft (agC xs xs.length).1 j ∧ rgt (agC xs xs.length).1 j < ((moK xs xs.length).length : Int) := fun j hj => by
    have hp := ag_ok h (xs.length - 1) (by omega)
    rw [show xs.length - 1 + 1 = xs.length by omega] at hp
    have h7 := hp.bd j hj
    have h8 := hp.asc
    rw [clAsc, if_neg (by omega)] at m4
    omega
  have hc := canon_mx m1 (ag_good h h10) (agC_len xs xs.length) hb (ag_cnt h xs.length (Nat.le_refl _))
  exact ⟨hc.2.1, hc.2.2.1, hc.2.2.2, hc.1⟩

theorem skp_lo {x a : Nat} (h : a < x) : skp x a = a := by rw [skp, if_pos h]
theorem skp_hi {x a : Nat} (h : x ≤ a) : skp x a = a + 1 := by rw [skp, if_neg (by omega)]
/-- a grown matrix is shrunk again -/
theorem sh_gr {xss : List (List Int)} (hm : mxB xss = true) {x : Nat} (hx : x ≤ xss.length) (hs : matS xss xss.length < 12) : topB (grL xss x) = true ∧ topN (grL xss x) = x ∧ shL (grL xss x) = xss := by
  have ⟨g1, g2, g3⟩ := gr_mx hm hx hs
  have hlen := grL_len (xss := xss) (x := x)
  have hp : 0 < (grL xss x).length := by
    rcases Nat.eq_zero_or_pos (grL xss x).length with h | h
    · rw [topI, if_pos h] at g3; omega
    · exact h
  have hN : topN (grL xss x) = x := by rw [topI, if_neg (by omega)] at g3; omega
  have hB : topB (grL xss x) = true := by
    simp only [topB, g1, Bool.true_and, decide_eq_true_eq]; omega
  refine ⟨hB, hN, ?_⟩
  rw [shL, if_pos hB, hN]
  have heq := grL_eq hm hx
  by_cases ht : (x : Int) ≤ topI xss
  · rw [if_pos ht] at heq hlen
    have hd : x < xss.length := by
      rw [topI] at ht
      split at ht
      · omega
      · have := topN_lt hm (by omega); omega
    have hpos := (of_mx hm).1 x hd
    have hrow : ¬ totR (rowL (grL xss x) x) = 1 := by
      rw [heq, sqM_row hd]
      have h3 := tot_skip (h := grAI (atM xss) xss.length x x) (n := xss.length) (x := xss.length - 1) (by omega)
      have h4 := tot_skip (h := atM xss x) (n := xss.length) (x := xss.length - 1) (by omega)
      have h5 : fmap (fun a => grAI (atM xss) xss.length x x (skp (xss.length - 1) a)) (xss.length - 1) = fmap (fun a => atM xss x (skp (xss.length - 1) a)) (xss.length - 1) := fmap_ext (fun a ha => by
        rw [grAI, if_neg]
        rintro ⟨_, h6⟩
        rw [skp_lo ha] at h6; omega)
      have h6 : grAI (atM xss) xss.length x x (xss.length - 1) = atM xss x (xss.length - 1) + 1 := by rw [grAI, if_pos ⟨rfl, rfl⟩]
      rw [h5, h6] at h3
      omega
    rw [if_neg hrow, heq, sqM_len]
    conv => rhs; rw [mx_eta hm]
    refine sqM_congr (fun i hi j hj => ?_)
    rw [decF]
    by_cases e : i = x ∧ j = xss.length - 1
    · rw [if_pos e, sqM_at hd (by omega), grAI, if_pos ⟨rfl, rfl⟩, e.1, e.2]; omega
    · rw [if_neg e, sqM_at hi hj, grAI, if_neg e]
  · rw [if_neg ht] at heq hlen
    obtain ⟨f, hf⟩ : ∃ f, f = atM xss := ⟨_, rfl⟩
    obtain ⟨d, hd⟩ : ∃ d, d = xss.length := ⟨_, rfl⟩
    rw [← hf, ← hd] at heq
    have hrow : totR (rowL (grL xss x) x) = 1 := by
      rw [heq, sqM_row (by omega)]
      have h3 := tot_skip (h := grBI f d x x) (n := d + 1) (x := d) (by omega)
      have h5 : totR (fmap (fun a => grBI f d x x (skp d a)) (d + 1 - 1)) = 0 := by
        rw [totR, fmap_len]
        refine totI_zero (fun j hj => ?_)
        rw [fmap_nth _ hj, skp_lo (by omega), grBI, if_neg (by omega), if_pos rfl, if_neg (by omega)]
      have h6 : grBI f d x x d = 1 := by rw [grBI, if_neg (by omega), if_pos rfl, if_pos rfl]
      rw [h5, h6] at h3
      omega
    rw [if_pos hrow, heq, sqM_len, Nat.add_sub_cancel]
    conv => rhs; rw [mx_eta hm, ← hf, ← hd]
    have hv : ∀ a b, a < d + 1 → b < d + 1 → atM (sqM (grBI f d x) (d+1) (d+1)) a b = grBI f d x a b := fun a b ha hb => sqM_at ha hb
    refine sqM_congr (fun i hi j hj => ?_)
    rw [shF, swF]
    by_cases hix : i < x
    · rw [skp_lo hix, if_pos hix]
      by_cases hjx : j < x
      · rw [skp_lo hjx, if_neg (by omega), if_neg (by omega), hv i j (by omega) (by omega), grBI, if_pos hix, if_pos hjx]
      · rw [skp_hi (by omega)]
        by_cases e : j + 1 = d
        · rw [if_pos (by omega), hv i x (by omega) (by omega), grBI, if_pos hix, if_neg (by omega), if_pos rfl, if_pos (by omega), show d - 1 = j by omega]
        · rw [if_neg (by omega), if_neg (by omega), hv i (j+1) (by omega) (by omega), grBI, if_pos hix, if_neg (by omega), if_neg (by omega), if_neg e, Nat.add_sub_cancel]
    · rw [skp_hi (show x ≤ i by omega), if_neg (by omega)]
      by_cases hjx : j < x
      · rw [skp_lo hjx, hv (i+1) j (by omega) (by omega), grBI, if_neg (by omega), if_neg (by omega), if_pos hjx, Nat.add_sub_cancel]
      · rw [skp_hi (show x ≤ j by omega), hv (i+1) (j+1) (by omega) (by omega), grBI, if_neg (by omega), if_neg (by omega), if_neg (by omega), if_neg (by omega), Nat.add_sub_cancel, Nat.add_sub_cancel]
/-- a shrunk matrix is grown again -/
theorem gr_sh {s : List (List Int)} (h : topB s = true) : gwB (shL s) ((topN s : Nat) : Int) = true ∧ grL (shL s) (topN s) = s := by
  have ⟨hmx, hpos⟩ := topB_mx h
  have htl := topN_lt hmx hpos
  have ⟨hr, hc, hup, hms, h12⟩ := of_mx hmx
  have hnn : ∀ i, i < s.length → ∀ j, j < s.length → 0 ≤ atM s i j := fun i hi j hj => (mxB_num hmx hi hj).1
  have hzt : ∀ i, i < topN s → atM s i (s.length - 1) = 0 := fun i hi => topN_zero hi
  have hne := topN_ne hmx hpos
  have ⟨m1, m2⟩ := sh_mx h
  have hrT : totR (rowL s (topN s)) = totR (fmap (atM s (topN s)) s.length) := by
    have h6 := list_fmap (rowL s (topN s))
    rw [mxB_len hmx htl] at h6
    exact congrArg totR h6
  have hsh : shL s = if totR (rowL s (topN s)) = 1 then sqM (shF (atM s) s.length (topN s)) (s.length - 1) (s.length - 1) else sqM (decF (atM s) s.length (topN s)) s.length s.length := by
    rw [shL, if_pos h]
  rw [hrT] at hsh
  have heta := mx_eta hmx
  have hsum : matS s s.length ≤ 12 := by omega
  obtain ⟨x, hx⟩ : ∃ x, x = topN s := ⟨_, rfl⟩
  obtain ⟨f, hf⟩ : ∃ f, f = atM s := ⟨_, rfl⟩
  obtain ⟨d, hd⟩ : ∃ d, d = s.length := ⟨_, rfl⟩
  obtain ⟨z, hz⟩ : ∃ z, z = shL s := ⟨_, rfl⟩
  rw [← hz] at m1 m2 hsh ⊢
  rw [← hx] at htl hzt hne hsh ⊢
  rw [← hd] at htl hr hc hup hnn hzt hne hsh heta hpos m2 hsum
  rw [← hf] at hr hc hup hnn hzt hne hsh heta
  have hnx := hnn x htl (d - 1) (by omega)
  by_cases hS : totR (fmap (f x) d) = 1
  · rw [if_pos hS] at hsh
    have hzl : z.length = d - 1 := by rw [hsh, sqM_len]
    have h3 := tot_skip (h := f x) (n := d) (x := d - 1) (by omega)
    have hnk : ∀ j, j < d - 1 → 0 ≤ f x (skp (d-1) j) := fun j hj => by rw [skp_lo hj]; exact hnn x htl j (by omega)
    have h4 : 0 ≤ totR (fmap (fun a => f x (skp (d-1) a)) (d-1)) := by
      rw [totR, fmap_len]
      exact totI_nn (fun j hj => by rw [fmap_nth _ hj]; exact hnk j hj)
    have h1x : f x (d-1) = 1 := by omega
    have h0x : ∀ j, j < d - 1 → f x j = 0 := fun j hj => by
      have h5 := hnn x htl j (by omega)
      by_cases h6 : f x j = 0
      · exact h6
      · have := tot_pos (h := fun a => f x (skp (d-1) a)) (n := d - 1) hnk hj (by show 0 < f x (skp (d-1) j); rw [skp_lo hj]; omega)
        omega
    have hv : ∀ a b, a < d - 1 → b < d - 1 → atM z a b = shF f d x a b := fun a b ha hb => by rw [hsh]; exact sqM_at ha hb
    have hlo : ∀ a b, a < x → b < d - 1 → b < x → atM z a b = f a b := fun a b ha hb hbx => by
      rw [hv a b (by omega) hb, shF, swF, skp_lo ha, if_pos ha, skp_lo hbx, if_neg (by omega), if_neg (by omega)]
    have hlz : ∀ a, a < x → x < d - 1 → atM z a (d - 1 - 1) = f a x := fun a ha hxd => by
      rw [hv a _ (by omega) (by omega), shF, swF, skp_lo ha, if_pos ha, skp_hi (by omega), if_pos (by omega)]
    have hlm : ∀ a b, a < x → x < b → b < d - 1 → atM z a (b - 1) = f a b := fun a b ha hbx hb => by
      rw [hv a _ (by omega) (by omega), shF, swF, skp_lo ha, if_pos ha, skp_hi (by omega), if_neg (by omega), if_neg (by omega), show b - 1 + 1 = b by omega]
    have hhl : ∀ a b, x < a → a < d → b < x → atM z (a - 1) b = f a b := fun a b ha had hb => by
      rw [hv _ b (by omega) (by omega), shF, swF, skp_hi (by omega), if_neg (by omega), skp_lo hb, show a - 1 + 1 = a by omega]
    have hhh : ∀ a b, x < a → a < d → x < b → b < d → atM z (a - 1) (b - 1) = f a b := fun a b ha had hb hbd => by
      rw [hv _ _ (by omega) (by omega), shF, swF, skp_hi (by omega), if_neg (by omega), skp_hi (by omega), show a - 1 + 1 = a by omega, show b - 1 + 1 = b by omega]
    have htop : ¬ (x : Int) ≤ topI z := by
      rw [topI, hzl]
      by_cases e : d - 1 = 0
      · rw [if_pos e]; omega
      · rw [if_neg e]
        by_cases e2 : x = d - 1
        · have := topN_lt m1 (by omega); omega
        · obtain ⟨a, ha, hpa⟩ := tot_ex (hc x htl) (fun j hj => hnn j hj x htl)
          have hax : a < x := by
            apply Classical.byContradiction
            intro hc2
            by_cases e3 : a = x
            · rw [e3, h0x x (by omega)] at hpa; omega
            · have := hup a ha x (by omega); omega
          have h8 := hlz a hax (by omega)
          intro hc3
          have h9 := topN_zero (xss := z) (j := a) (by omega)
          rw [hzl, h8] at h9
          omega
    have hgl : grL z x = sqM (grBI (atM z) (d - 1) x) d d := by
      have := grL_eq m1 (x := x) (by omega)
      rw [if_neg htop, hzl, show d - 1 + 1 = d by omega] at this
      exact this
    refine ⟨gwB_iff.2 ⟨m1, by omega, by omega, by omega⟩, ?_⟩
    rw [hgl]
    conv => rhs; rw [heta]
    refine sqM_congr (fun i hi j hj => ?_)
    rw [grBI]
    by_cases hix : i < x
    · rw [if_pos hix]
      by_cases h1 : j < x
      · rw [if_pos h1]; exact hlo i j hix (by omega) h1
      · rw [if_neg h1]
        by_cases h2 : j = x
        · rw [if_pos h2, h2]
          by_cases h5 : x < d - 1
          · rw [if_pos h5]; exact hlz i hix h5
          · rw [if_neg h5, show x = d - 1 by omega, hzt i hix]
        · rw [if_neg h2]
          by_cases h5 : j = d - 1
          · rw [if_pos h5, h5, hzt i hix]
          · rw [if_neg h5]; exact hlm i j hix (by omega) (by omega)
    · rw [if_neg hix]
      by_cases e : i = x
      · rw [if_pos e, e]
        by_cases h5 : j = d - 1
        · rw [if_pos h5, h5, h1x]
        · rw [if_neg h5, h0x j (by omega)]
      · rw [if_neg e]
        by_cases h1 : j < x
        · rw [if_pos h1]; exact hhl i j (by omega) hi h1
        · rw [if_neg h1]
          by_cases h2 : j = x
          · rw [if_pos h2, h2, hup i hi x (by omega)]
          · rw [if_neg h2]; exact hhh i j (by omega) hi (by omega) hj
  · rw [if_neg hS] at hsh
    have hzl : z.length = d := by rw [hsh, sqM_len]
    have hv : ∀ a b, a < d → b < d → atM z a b = decF f d x a b := fun a b ha hb => by rw [hsh]; exact sqM_at ha hb
    have htop : (x : Int) ≤ topI z := by
      rw [topI, hzl, if_neg (by omega)]
      apply Classical.byContradiction
      intro hc2
      have h8 := topN_ne m1 (by omega)
      rw [hzl, hv _ _ (by omega) (by omega), decF, if_neg (by omega)] at h8
      exact h8 (hzt _ (by omega))
    have hgl : grL z x = sqM (grAI (atM z) d x) d d := by
      have := grL_eq m1 (x := x) (by omega)
      rw [if_pos htop, hzl] at this
      exact this
    refine ⟨gwB_iff.2 ⟨m1, by omega, by omega, by omega⟩, ?_⟩
    rw [hgl]
    conv => rhs; rw [heta]
    refine sqM_congr (fun i hi j hj => ?_)
    rw [grAI]
    by_cases e : i = x ∧ j = d - 1
    · rw [if_pos e, hv _ _ htl (by omega), decF, if_pos ⟨rfl, rfl⟩, e.1, e.2]; omega
    · rw [if_neg e, hv i j hi hj, decF, if_neg e]

/-- the numbers that are taken out of a matrix, the last one taken first -/
def asF : Nat → List (List Int) → List Int
  | 0, _ => []
  | n+1, xss => asF n (shL xss) ++ [topV xss]
theorem asF_len : ∀ (n : Nat) (xss : List (List Int)), (asF n xss).length = n
  | 0, _ => rfl
  | n+1, xss => by rw [asF, List.length_append, asF_len n]; rfl
def slL : Value → Nat
  | .slice _ n _ => n
  | _ => 0
def asN (xss : List (List Int)) : Nat := (matS xss xss.length).toNat
def asL (xss : List (List Int)) : List Int := asF (asN xss) xss
theorem topB_of {xss : List (List Int)} (h : mxB xss = true) (hp : 0 < xss.length) : topB xss = true := by
  simp [topB, h]; intro e; simp [e] at hp
theorem asN_step {xss : List (List Int)} (h : topB xss = true) : asN xss = asN (shL xss) + 1 := by
  have ⟨h1, h2⟩ := sh_mx h
  have h4 : 0 ≤ matS (shL xss) (shL xss).length := by
    exact matS_nn (fun j hj => by have := (adB_row (mxB_iff.1 h1).1 hj).1; omega)
  rw [asN, asN]; omega
theorem asF_step {xss : List (List Int)} (h : topB xss = true) (l : List Int) : asF (asN xss) xss ++ l = asF (asN (shL xss)) (shL xss) ++ (topV xss :: l) := by
  rw [asN_step h, asF, List.append_assoc]; rfl

def rsL (xss : List (List Int)) : List Int := if mxB xss then fmap (fun k => totR (rowL xss k)) xss.length else []
def csL (xss : List (List Int)) : List Int := if mxB xss then fmap (fun k => totR (colL xss k)) xss.length else []
theorem rsL_len (xss : List (List Int)) : (rsL xss).length ≤ 1048576 := by
  unfold rsL
  split
  · rename_i h
    have := mxB_small h
    rw [fmap_len]; omega
  · simp
theorem csL_len (xss : List (List Int)) : (csL xss).length ≤ 1048576 := by
  unfold csL
  split
  · rename_i h
    have := mxB_small h
    rw [fmap_len]; omega
  · simp

/-- does the same number stand at k and before it? -/
def twinB (xs : List Int) (k : Nat) : Bool := decide (0 < k) && decide (nth xs (k-1) = nth xs k)
theorem twinB_iff {xs : List Int} {k : Nat} : twinB xs k = true ↔ 0 < k ∧ nth xs (k-1) = nth xs k := by simp [twinB]
def mgTo (xs : List Int) : Nat → List Int
  | 0 => []
  | k+1 => if twinB xs k then mgTo xs k else mgTo xs k ++ [nth xs k]
def lnTo (xs : List Int) : Nat → List Int
  | 0 => []
  | k+1 => if twinB xs k then (lnTo xs k).set ((lnTo xs k).length - 1) (nth (lnTo xs k) ((lnTo xs k).length - 1) + 1) else lnTo xs k ++ [1]
theorem mgTo_len (xs : List Int) : ∀ k, (mgTo xs k).length = (lnTo xs k).length
  | 0 => rfl
  | k+1 => by
    rw [mgTo, lnTo]
    split
    · rw [List.length_set]; exact mgTo_len xs k
    · rw [List.length_append, List.length_append, mgTo_len xs k]; rfl
theorem lnTo_le (xs : List Int) : ∀ k, (lnTo xs k).length ≤ k
  | 0 => by simp [lnTo]
  | k+1 => by
    have := lnTo_le xs k
    rw [lnTo]
    split
    · rw [List.length_set]; omega
    · rw [List.length_append]; simp; omega
theorem lnTo_pos (xs : List Int) : ∀ k, 0 < k → 0 < (lnTo xs k).length
  | k+1, _ => by
    rw [lnTo]
    split
    · rename_i h
      rw [List.length_set]
      exact lnTo_pos xs k (twinB_iff.1 h).1
    · rw [List.length_append]; simp
theorem lnTo_val (xs : List Int) : ∀ k, ∀ x ∈ lnTo xs k, 1 ≤ x ∧ x ≤ (k : Int)
  | 0, x, h => by simp [lnTo] at h
  | k+1, x, h => by
    rw [lnTo] at h
    split at h
    · rename_i h1
      have hp := lnTo_pos xs k (twinB_iff.1 h1).1
      rcases List.mem_or_eq_of_mem_set h with h | h
      · have := lnTo_val xs k x h; omega
      · have := lnTo_val xs k _ (nth_mem (xs := lnTo xs k) (k := (lnTo xs k).length - 1) (by omega))
        omega
    · rcases List.mem_append.1 h with h | h
      · have := lnTo_val xs k x h; omega
      · simp at h; omega
def mgL (xs : List Int) : List Int := if ascB xs then mgTo xs xs.length else []
def lnL (xs : List Int) : List Int := if ascB xs then lnTo xs xs.length else []
theorem mgL_len (xs : List Int) : (mgL xs).length ≤ 524288 := by
  unfold mgL
  split
  · rename_i h; have := (ascB_iff.1 h).1; have := lnTo_le xs xs.length; rw [mgTo_len]; omega
  · simp
theorem lnL_len (xs : List Int) : (lnL xs).length ≤ 524288 := by
  unfold lnL
  split
  · rename_i h; have := (ascB_iff.1 h).1; have := lnTo_le xs xs.length; omega
  · simp
theorem mgL_le (xs : List Int) : (mgL xs).length ≤ 1048576 := Nat.le_trans (mgL_len xs) (by omega)
theorem lnL_le (xs : List Int) : (lnL xs).length ≤ 1048576 := Nat.le_trans (lnL_len xs) (by omega)
def TwoI (w : World) (xs ys : List Int) (b : Bool) : Ending → World → Prop := fun e w' => ∃ a1 c1 a2 c2, e = .returned (.tuple #[.slice a1 xs.length c1, .slice a2 ys.length c2, .bool b]) ∧ OwnI w' w.heap.size (.slice a1 xs.length c1) xs ∧ OwnI w' w.heap.size (.slice a2 ys.length c2) ys ∧ SepV (.slice a1 xs.length c1) (.slice a2 ys.length c2) ∧ Below w.heap.size w w'

def aoN (xs : List Int) : Int := if ascB xs then (ascTo xs xs.length : Int) else 0

/-- the last number that was merged is the last one -/
theorem mg_last (xs : List Int) : ∀ k, 0 < k → 0 < (mgTo xs k).length ∧ nth (mgTo xs k) ((mgTo xs k).length - 1) = nth xs (k - 1)
  | k+1, _ => by
    rw [mgTo]
    cases ht : twinB xs k
    · rw [if_neg (by simp)]
      have e : (mgTo xs k ++ [nth xs k]).length = (mgTo xs k).length + 1 := by simp
      refine ⟨by omega, ?_⟩
      rw [e, Nat.add_sub_cancel, Nat.add_sub_cancel, nth_snoc_end]
    · have ⟨h0, h1⟩ := twinB_iff.1 ht
      have ih := mg_last xs k h0
      rw [if_pos rfl]
      exact ⟨ih.1, by rw [ih.2, h1]; rfl⟩
theorem mg_zero (xs : List Int) : ∀ k, (mgTo xs k).length = 0 → k = 0
  | 0, _ => rfl
  | k+1, h => by have := (mg_last xs (k+1) (by omega)).1; omega
theorem rise_app {ys : List Int} {x : Int} {i : Nat} (h : i < ys.length) : riseB (ys ++ [x]) i = riseB ys i := by
  rw [riseB, riseB, nth_snoc_lt h, nth_snoc_lt (show i - 1 < ys.length by omega)]
theorem asc_app {ys : List Int} {x : Int} : ∀ {i : Nat}, i ≤ ys.length → ascTo (ys ++ [x]) i = ascTo ys i
  | 0, _ => rfl
  | i+1, h => by rw [ascTo, ascTo, rise_app (by omega), asc_app (by omega)]
/-- merging keeps the ascents -/
theorem mg_asc (xs : List Int) : ∀ k, ascTo (mgTo xs k) (mgTo xs k).length = ascTo xs k
  | 0 => rfl
  | k+1 => by
    have ih := mg_asc xs k
    rw [mgTo]
    cases ht : twinB xs k
    · rw [if_neg (by simp)]
      have e : (mgTo xs k ++ [nth xs k]).length = (mgTo xs k).length + 1 := by simp
      rw [e, ascTo, ascTo, asc_app (Nat.le_refl _), ih]
      have er : riseB (mgTo xs k ++ [nth xs k]) (mgTo xs k).length = riseB xs k := by
        rw [riseB, riseB, nth_snoc_end]
        by_cases h0 : k = 0
        · subst h0; rfl
        · have ⟨g1, g2⟩ := mg_last xs k (by omega)
          rw [nth_snoc_lt (show (mgTo xs k).length - 1 < (mgTo xs k).length by omega), g2, decide_eq_true (show 0 < k by omega), decide_eq_true g1]
      rw [er]
    · have ⟨h0, h1⟩ := twinB_iff.1 ht
      rw [if_pos rfl, ih, ascTo_no]
      rw [← Bool.not_eq_true, riseB_iff]
      omega
theorem mg_bnd (xs : List Int) (k : Nat) : bndTo (mgTo xs k) (mgTo xs k).length = bndTo xs k := by
  rw [bndTo, bndTo, mg_asc]
  by_cases h0 : k = 0
  · subst h0; rfl
  · rw [if_neg (fun e => h0 (mg_zero xs k e)), if_neg h0]
theorem bnd_app {ys : List Int} {x : Int} {i : Nat} (h : i ≤ ys.length) : bndTo (ys ++ [x]) i = bndTo ys i := by
  rw [bndTo, bndTo, asc_app h]
/-- merged numbers are an ascent sequence -/
theorem mg_ok {xs : List Int} (h : ascB xs = true) : ∀ k, k ≤ xs.length → ∀ j, j < (mgTo xs k).length → ascOk (mgTo xs k) j = true
  | 0, _, j, hj => by simp [mgTo] at hj
  | k+1, hk, j, hj => by
    have ih := mg_ok h k (by omega)
    rw [mgTo] at hj ⊢
    cases ht : twinB xs k
    · rw [ht] at hj
      rw [if_neg (by simp)] at hj ⊢
      have e : (mgTo xs k ++ [nth xs k]).length = (mgTo xs k).length + 1 := by simp
      by_cases e2 : j < (mgTo xs k).length
      · have := ih j e2
        rw [ascOk] at this ⊢
        rw [nth_snoc_lt e2, bnd_app (by omega)]; exact this
      · obtain rfl : j = (mgTo xs k).length := by omega
        rw [ascOk, nth_snoc_end, bnd_app (Nat.le_refl _), mg_bnd]
        exact (ascB_iff.1 h).2 k (by omega)
    · rw [ht, if_pos rfl] at hj
      rw [if_pos rfl]
      exact ih j hj
theorem mg_good {xs : List Int} (h : ascB xs = true) : ascB (mgTo xs xs.length) = true := by
  have h12 := (ascB_iff.1 h).1
  have h1 := lnTo_le xs xs.length
  have h2 := mgTo_len xs xs.length
  exact ascB_iff.2 ⟨by omega, mg_ok h xs.length (Nat.le_refl _)⟩
theorem totI_app {ys : List Int} {x : Int} : ∀ {i : Nat}, i ≤ ys.length → totI (ys ++ [x]) i = totI ys i
  | 0, _ => rfl
  | i+1, h => by rw [totI, totI, totI_app (by omega), nth_snoc_lt (by omega)]
theorem totI_set {ys : List Int} {x : Int} {m : Nat} (hm : m < ys.length) : ∀ {i : Nat}, i ≤ m → totI (ys.set m x) i = totI ys i
  | 0, _ => rfl
  | i+1, h => by rw [totI, totI, totI_set hm (by omega), nth_set hm, if_neg (by omega)]
/-- the lengths of the runs add up -/
theorem ln_sum (xs : List Int) : ∀ k, totR (lnTo xs k) = (k : Int)
  | 0 => rfl
  | k+1 => by
    have ih := ln_sum xs k
    rw [lnTo]
    cases ht : twinB xs k
    · rw [if_neg (by simp), totR]
      have e : (lnTo xs k ++ [1]).length = (lnTo xs k).length + 1 := by simp
      rw [e, totI, totI_app (Nat.le_refl _), nth_snoc_end]
      rw [totR] at ih
      omega
    · have ⟨h0, h1⟩ := twinB_iff.1 ht
      have hp := lnTo_pos xs k h0
      rw [if_pos rfl, totR, List.length_set]
      obtain ⟨m, hm⟩ : ∃ m, (lnTo xs k).length = m + 1 := ⟨(lnTo xs k).length - 1, by omega⟩
      rw [totR, hm, totI] at ih
      rw [hm, Nat.add_sub_cancel, totI, totI_set (by omega) (Nat.le_refl _), nth_set (by omega), if_pos rfl]
      omega
/-- where the runs stand -/
theorem ln_at (xs : List Int) : ∀ k, ∀ j, j < (lnTo xs k).length → ∀ i : Nat, (i : Int) < nth (lnTo xs k) j → 0 ≤ totI (lnTo xs k) j ∧ totI (lnTo xs k) j + i < (k : Int) ∧ nth xs (totI (lnTo xs k) j + i).toNat = nth (mgTo xs k) j
  | 0, j, hj, _, _ => by simp [lnTo] at hj
  | k+1, j, hj, i, hi => by
    have ih := ln_at xs k
    have hs := ln_sum xs k
    have hlen := mgTo_len xs k
    rw [lnTo] at hj hi ⊢
    rw [mgTo]
    cases ht : twinB xs k
    · rw [ht] at hj hi
      rw [if_neg (by simp)] at hj hi ⊢
      rw [if_neg (by simp)]
      have e : (lnTo xs k ++ [1]).length = (lnTo xs k).length + 1 := by simp
      by_cases e2 : j < (lnTo xs k).length
      · rw [nth_snoc_lt e2] at hi
        rw [totI_app (by omega), nth_snoc_lt (by omega)]
        have := ih j e2 i hi
        exact ⟨this.1, by omega, this.2.2⟩
      · obtain rfl : j = (lnTo xs k).length := by omega
        rw [nth_snoc_end] at hi
        obtain rfl : i = 0 := by omega
        rw [totI_app (Nat.le_refl _)]
        rw [totR] at hs
        rw [hs, ← hlen, nth_snoc_end]
        refine ⟨by omega, by omega, ?_⟩
        congr 1
    · have ⟨h0, h1⟩ := twinB_iff.1 ht
      have hp := lnTo_pos xs k h0
      rw [ht, if_pos rfl] at hj hi
      rw [List.length_set] at hj
      rw [nth_set (by omega)] at hi
      rw [if_pos rfl, if_pos rfl, totI_set (by omega) (by omega)]
      by_cases e2 : (lnTo xs k).length - 1 = j
      · rw [if_pos e2] at hi
        obtain ⟨m, hm⟩ : ∃ m, (lnTo xs k).length = m + 1 := ⟨(lnTo xs k).length - 1, by omega⟩
        rw [totR, hm, totI] at hs
        have ej : j = m := by omega
        subst ej
        rw [hm, Nat.add_sub_cancel] at hi
        have hv := lnTo_val xs k _ (nth_mem (xs := lnTo xs k) (k := j) (by omega))
        by_cases e3 : (i : Int) < nth (lnTo xs k) j
        · have := ih j (by omega) i e3
          exact ⟨this.1, by omega, this.2.2⟩
        · have h5 := ih j (by omega) 0 (by omega)
          have hl := (mg_last xs k h0).2
          rw [hlen, hm, Nat.add_sub_cancel] at hl
          refine ⟨h5.1, by omega, ?_⟩
          rw [show (totI (lnTo xs k) j + (i : Int)).toNat = k by omega, hl]
          exact h1.symm
      · rw [if_neg e2] at hi
        have := ih j (by omega) i hi
        exact ⟨this.1, by omega, this.2.2⟩
/-- no two merged numbers beside each other are equal -/
theorem mg_apart (xs : List Int) : ∀ k, ∀ j, 0 < j → j < (mgTo xs k).length → nth (mgTo xs k) (j-1) ≠ nth (mgTo xs k) j
  | 0, j, _, hj => by simp [mgTo] at hj
  | k+1, j, h0, hj => by
    have ih := mg_apart xs k j h0
    rw [mgTo] at hj ⊢
    cases ht : twinB xs k
    · rw [ht] at hj
      rw [if_neg (by simp)] at hj ⊢
      have e : (mgTo xs k ++ [nth xs k]).length = (mgTo xs k).length + 1 := by simp
      by_cases e2 : j < (mgTo xs k).length
      · rw [nth_snoc_lt e2, nth_snoc_lt (by omega)]; exact ih e2
      · obtain rfl : j = (mgTo xs k).length := by omega
        have hk : 0 < k := by
          rcases Nat.eq_zero_or_pos k with h | h
          · subst h; simp [mgTo] at h0
          · exact h
        rw [nth_snoc_end, nth_snoc_lt (by omega), (mg_last xs k hk).2]
        intro hc
        rw [twinB_iff.2 ⟨hk, hc⟩] at ht
        cases ht
    · rw [ht, if_pos rfl] at hj
      rw [if_pos rfl]
      exact ih hj

theorem runs_here (xs : List Int) (k : Nat) : ∀ j, j < (lnTo xs k).length → ∃ r : Nat, nth (lnTo xs k) j = (r : Int) ∧ r ≤ k ∧ (totI (lnTo xs k) (j+1)).toNat = (totI (lnTo xs k) j).toNat + r ∧ ∀ i, i < r → (totI (lnTo xs k) j).toNat + i < k ∧ nth xs ((totI (lnTo xs k) j).toNat + i) = nth (mgTo xs k) j := fun j hj => by
  have hv := lnTo_val xs k _ (nth_mem (xs := lnTo xs k) (k := j) hj)
  have h0 := ln_at xs k j hj 0 (by omega)
  obtain ⟨r, hr⟩ := Int.eq_ofNat_of_zero_le (show 0 ≤ nth (lnTo xs k) j by omega)
  refine ⟨r, hr, by omega, ?_, fun i hi => ?_⟩
  · rw [totI, hr]; omega
  · have := ln_at xs k j hj i (by omega)
    rw [show (totI (lnTo xs k) j).toNat + i = (totI (lnTo xs k) j + (i : Int)).toNat by omega]
    exact ⟨by omega, this.2.2⟩
theorem mo_rows {xs : List Int} (h : ascB xs = true) : (moK xs xs.length).length = if xs.length = 0 then 0 else ascTo xs xs.length + 1 := by
  have := (moK_ok h (Nat.le_refl _)).2.2.2
  rw [clAsc] at this
  split
  · rename_i e; rw [if_pos e] at this; omega
  · rename_i e; rw [if_neg e] at this; omega
theorem mg_rows {xs : List Int} (h : ascB xs = true) : (moK (mgTo xs xs.length) (mgTo xs xs.length).length).length = (moK xs xs.length).length := by
  rw [mo_rows (mg_good h), mo_rows h, mg_asc]
  by_cases e : xs.length = 0
  · rw [e]; rfl
  · rw [if_neg e, if_neg (fun e2 => e (mg_zero xs xs.length e2))]

theorem take_nth {xs : List Int} {k : Nat} (h : k < xs.length) : xs.take (k+1) = xs.take k ++ [nth xs k] := by
  rw [List.take_add_one]
  congr 1
  simp [nth, List.getElem?_eq_getElem h]
/-- an ascent sequence is read back from its matrix -/
theorem as_mo {xs : List Int} (h : ascB xs = true) : ∀ k, k ≤ xs.length → asF k (moK xs k) = xs.take k
  | 0, _ => by simp [asF]
  | k+1, hk => by
    have ⟨m1, m2, m3, m4⟩ := moK_ok h (k := k) (by omega)
    have ⟨h5, h6⟩ := ascB_nth h (k := k) (by omega)
    have h7 := clAsc_bnd xs k
    have h8 := (ascB_iff.1 h).1
    have hX : (nth xs k).toNat ≤ (moK xs k).length := by omega
    have ⟨g1, g2, g3⟩ := sh_gr m1 hX (by omega)
    show asF k (shL (grL (moK xs k) (nth xs k).toNat)) ++ [topV (grL (moK xs k) (nth xs k).toNat)] = _
    rw [g3, as_mo h k (by omega), topV, if_pos g1, g2, take_nth (by omega), Int.toNat_of_nonneg h5]
theorem as_all {xs : List Int} (h : ascB xs = true) : asL (moK xs xs.length) = xs := by
  have hm := (moK_ok h (Nat.le_refl _)).2.1
  rw [asL, asN, hm, Int.toNat_natCast, as_mo h _ (Nat.le_refl _), List.take_length]
/-- how many of the first k numbers are zero -/
def zrTo (xs : List Int) : Nat → Nat
  | 0 => 0
  | k+1 => zrTo xs k + (if nth xs k = 0 then 1 else 0)
theorem zrTo_le (xs : List Int) : ∀ k, zrTo xs k ≤ k
  | 0 => Nat.le_refl _
  | k+1 => by have := zrTo_le xs k; rw [zrTo]; split <;> omega
theorem grA_row {e : Nat → Nat → Nat} {d x i : Nat} (hd : 0 < d) : sN (grA e d x i) d = sN (e i) d + if i = x then 1 else 0 := by
  have h1 : sN (grA e d x i) d = sN (fun j => e i j + if i = x ∧ j = d - 1 then 1 else 0) d := rfl
  rw [h1, sN_add, sN_one (j := d - 1) (by omega) (fun j hj hne => if_neg (fun h => hne h.2))]
  by_cases h : i = x
  · rw [if_pos ⟨h, rfl⟩, if_pos h]
  · rw [if_neg (fun hc => h hc.1), if_neg h]
theorem row_sN {xss : List (List Int)} (h : mxB xss = true) (hp : 0 < xss.length) : totR (rowL xss 0) = (sN (enN xss 0) xss.length : Int) := by
  have e := en_eta h
  have e2 : rowL xss 0 = fmap (fun j => (enN xss 0 j : Int)) xss.length := by
    conv => lhs; rw [e]
    exact sqM_row hp
  rw [e2, totR_sN]
/-- the zeros are counted by the first row -/
theorem zeros_row {xs : List Int} (h : ascB xs = true) : ∀ k, k ≤ xs.length → totR (rowL (moK xs k) 0) = (zrTo xs k : Int)
  | 0, _ => rfl
  | k+1, hk => by
    have ih := zeros_row h k (by omega)
    have ⟨m1, m2, m3, m4⟩ := moK_ok h (k := k) (by omega)
    have ⟨h5, h6⟩ := ascB_nth h (k := k) (by omega)
    have h7 := clAsc_bnd xs k
    obtain ⟨x, hx⟩ := Int.eq_ofNat_of_zero_le h5
    have hz : (nth xs k = 0) ↔ (0 = x) := by omega
    have hX : x ≤ (moK xs k).length := by omega
    show totR (rowL (grL (moK xs k) (nth xs k).toNat) 0) = _
    rw [hx, Int.toNat_natCast, zrTo, grL]
    have hz2 : (if nth xs k = 0 then 1 else 0) = (if 0 = x then 1 else 0) := by
      by_cases e : 0 = x
      · rw [if_pos e, if_pos (hz.2 e)]
      · rw [if_neg e, if_neg (fun hc => e (hz.1 hc))]
    rw [hz2]
    generalize moK xs k = M at *
    by_cases ht : (x : Int) ≤ topI M
    · rw [if_pos ht]
      have hp : 0 < M.length := by
        rcases Nat.eq_zero_or_pos M.length with h0 | h0
        · rw [topI, if_pos h0] at ht; omega
        · exact h0
      rw [sqM_row hp, totR_sN, grA_row hp]
      rw [row_sN m1 hp] at ih
      split <;> omega
    · rw [if_neg ht, sqM_row (by omega), totR_sN, grB_row hX]
      by_cases e : 0 = x
      · have h0 : M.length = 0 := by
          rcases Nat.eq_zero_or_pos M.length with h0 | h0
          · exact h0
          · rw [topI, if_neg (by omega)] at ht; omega
        have hM : M = [] := List.eq_nil_of_length_eq_zero h0
        rw [hM] at ih
        have ih2 : (0 : Int) = (zrTo xs k : Int) := ih
        rw [if_neg (by omega), if_pos e, if_pos e]; omega
      · rw [if_pos (by omega), if_neg e]
        rw [row_sN m1 (by omega)] at ih
        omega
/-- row sums and column sums add up to the sum -/
theorem rs_sum {xss : List (List Int)} (n : Nat) : ∀ k, k ≤ n → totI (fmap (fun k => totR (rowL xss k)) n) k = matS xss k
  | 0, _ => rfl
  | k+1, hk => by rw [totI, matS, rs_sum n k (by omega), fmap_nth _ (by omega)]
theorem rs_tot {xss : List (List Int)} (h : mxB xss = true) : totR (rsL xss) = matS xss xss.length := by
  rw [rsL, if_pos h, totR, fmap_len, rs_sum _ _ (Nat.le_refl _)]
theorem cs_tot {xss : List (List Int)} (h : mxB xss = true) : totR (csL xss) = matS xss xss.length := by
  have hmc := matS_cols (xss := xss) (fun i hi => mxB_len h hi)
  rw [csL, if_pos h, totR, fmap_len, ← hmc, colsL_len]
  have : ∀ k, k ≤ xss.length → totI (fmap (fun k => totR (colL xss k)) xss.length) k = matS (colsL xss) k := by
    intro k
    induction k with
    | zero => intro _; rfl
    | succ k ih => intro hk; rw [totI, matS, ih (by omega), fmap_nth _ (by omega), colsL_row (by omega)]
  exact this _ (Nat.le_refl _)
theorem rs_small {xss : List (List Int)} (h : mxB xss = true) : ∀ j, j < (rsL xss).length → 0 ≤ nth (rsL xss) j ∧ nth (rsL xss) j ≤ 1000 := fun j hj => by
  have hs : matS xss xss.length ≤ 12 := (adB_iff.1 (mxB_iff.1 h).1).2
  have hnn : ∀ i, i < (rsL xss).length → 0 ≤ nth (rsL xss) i := fun i hi => by
    rw [rsL, if_pos h, fmap_len] at hi
    rw [rsL, if_pos h, fmap_nth _ hi]
    have := (adB_row (mxB_iff.1 h).1 hi).1; omega
  have h2 := totI_at hj hnn
  have h3 := rs_tot h
  rw [totR] at h3
  exact ⟨hnn j hj, by omega⟩
theorem cs_small {xss : List (List Int)} (h : mxB xss = true) : ∀ j, j < (csL xss).length → 0 ≤ nth (csL xss) j ∧ nth (csL xss) j ≤ 1000 := fun j hj => by
  have hs : matS xss xss.length ≤ 12 := (adB_iff.1 (mxB_iff.1 h).1).2
  have hnn : ∀ i, i < (csL xss).length → 0 ≤ nth (csL xss) i := fun i hi => by
    rw [csL, if_pos h, fmap_len] at hi
    rw [csL, if_pos h, fmap_nth _ hi, ← colsL_row hi]
    have := (adB_row (mxB_iff.1 h).2.2 (k := i) (by rw [colsL_len]; exact hi)).1; omega
  have h2 := totI_at hj hnn
  have h3 := cs_tot h
  rw [totR] at h3
  exact ⟨hnn j hj, by omega⟩

theorem wpList_append_none {P : Program} {w : World} {ops : Array Oper} {rest : List Oper} {o : Oper} {a : Act} {Q : Exit → Act → World → Prop} (hgd : o.guard = none) (s x : Operand) (t : TypeId)
    (ho : o.op = .call { callee := .builtin .append, args := #[s, x], argTypes := #[t, t] })
    (base : Nat) (e : TypeId) (i : TypeInfo) (size : Nat) (ht : P.underlying t = some (.slice e)) (hi : P.info? e = some i)
    (v : Value) (n c : Nat) (xs : List Value) (hs : a.eval s = v) (hown : w.ownsRow base e size v n xs) (hx : a.eval x = .slice none 0 c)
    (h : wpList P ops Q rest (a.put o.dst v) w) : wpList P ops Q (o :: rest) a w := by
  refine wpList_plain hgd fun K hK => ?_
  have hrun : (Builtin.append_ #[t, t] o.type #[v, .slice none 0 c]).run P w = .ok v w := by
    rcases hown.2 with ⟨rfl, rfl⟩ | ⟨g, cap, cur, rfl, _, _, hnc, _⟩
    · simp [Builtin.append_, run_underlying ht, sizeOf, typeInfo, hi, Builtin.lenOf, Builtin.firstCells]
    · simp [Builtin.append_, run_underlying ht, sizeOf, typeInfo, hi, Builtin.lenOf, Builtin.firstCells, hnc, storeCells]
  unfold Oper.wp
  simp [execOp, ho, resolve, invoke, builtin, hs, hx, hrun, Result.andThen]
  exact hK _ _ h
theorem rd_news {w : World} {ad : Addr} {xs : List Int} (hx : Rd w (some ad) xs) : ∀ j u, (xs.map (Value.int .i64))[j]? = some u → w.cell? (ad.add j) = some u := by
  intro j u hj
  rw [List.getElem?_map, Option.map_eq_some_iff] at hj
  obtain ⟨x, hx1, rfl⟩ := hj
  obtain ⟨hlt, e⟩ := List.getElem?_eq_some_iff.1 hx1
  obtain ⟨b, off, e1, _, hc⟩ := hx.cell j hlt
  simp only [Option.some.injEq] at e1
  subst e1
  rw [Addr.add_lit, hc, nth_get xs j hlt, e]
theorem ints_one (xs : List Int) : ∀ u ∈ xs.map (Value.int .i64), u.oneCell' = true := by
  intro u hu
  obtain ⟨x, _, rfl⟩ := List.mem_map.1 hu
  rfl

/-- one number of a list becomes greater if it is at least x -/
def bumpStep (ys : List Int) (x : Int) (j : Nat) : List Int := if x ≤ nth ys j then ys.set j (nth ys j + 1) else ys
def bumpTo (ys : List Int) (x : Int) : Nat → List Int
  | 0 => ys
  | j+1 => bumpStep (bumpTo ys x j) x j
/-- the list modified for the ascents to the first i numbers -/
def modTo (xs : List Int) : Nat → List Int
  | 0 => xs
  | i+1 => if riseB xs i then bumpTo (modTo xs i) (nth xs i) i else modTo xs i
theorem bumpStep_len (ys : List Int) (x : Int) (j : Nat) : (bumpStep ys x j).length = ys.length := by
  unfold bumpStep; split <;> simp
theorem bumpTo_len (ys : List Int) (x : Int) : ∀ j, (bumpTo ys x j).length = ys.length
  | 0 => rfl
  | j+1 => by rw [bumpTo, bumpStep_len, bumpTo_len ys x j]
theorem modTo_len (xs : List Int) : ∀ i, (modTo xs i).length = xs.length
  | 0 => rfl
  | i+1 => by
    rw [modTo]
    split
    · rw [bumpTo_len, modTo_len xs i]
    · exact modTo_len xs i
theorem bumpTo_nth {ys : List Int} {x : Int} {t : Nat} : ∀ {j : Nat}, j ≤ ys.length → nth (bumpTo ys x j) t = if t < j ∧ x ≤ nth ys t then nth ys t + 1 else nth ys t
  | 0, _ => by simp [bumpTo]
  | j+1, hj => by
    have ih := fun t => bumpTo_nth (ys := ys) (x := x) (t := t) (j := j) (by omega)
    have hjj : nth (bumpTo ys x j) j = nth ys j := by rw [ih]; simp
    rw [bumpTo, bumpStep, hjj]
    by_cases hx : x ≤ nth ys j
    · rw [if_pos hx, nth_set (by rw [bumpTo_len]; omega)]
      by_cases e : j = t
      · subst e; simp [hx]
      · rw [if_neg e, ih]
        by_cases h2 : t < j ∧ x ≤ nth ys t
        · rw [if_pos h2, if_pos ⟨by omega, h2.2⟩]
        · rw [if_neg h2, if_neg (by intro h3; exact h2 ⟨by omega, h3.2⟩)]
    · rw [if_neg hx, ih]
      by_cases h2 : t < j ∧ x ≤ nth ys t
      · rw [if_pos h2, if_pos ⟨by omega, h2.2⟩]
      · rw [if_neg h2, if_neg (by
          rintro ⟨h3, h4⟩
          by_cases e : t = j
          · subst e; exact hx h4
          · exact h2 ⟨by omega, h4⟩)]
theorem mod_bd {xs : List Int} (h : ascB xs = true) : ∀ i, i ≤ xs.length → ∀ t, t < xs.length → 0 ≤ nth (modTo xs i) t ∧ (t < i → nth (modTo xs i) t ≤ (ascTo xs i : Int)) ∧ (i ≤ t → nth (modTo xs i) t = nth xs t) ∧ (nth xs t ≤ nth (modTo xs i) t)
  | 0, _, t, ht => ⟨(ascB_nth h ht).1, fun h2 => by omega, fun _ => rfl, Int.le_refl _⟩
  | i+1, hi, t, ht => by
    have ih := mod_bd h i (by omega)
    have hx := ascB_nth h (show i < xs.length by omega)
    rw [modTo]
    cases hr : riseB xs i
    · have ha := ascTo_no hr
      have ⟨h0, h1, h2, h3⟩ := ih t ht
      simp only [Bool.false_eq_true, if_false]
      refine ⟨h0, fun ht2 => ?_, fun ht2 => h2 (by omega), h3⟩
      rw [ha]
      by_cases e : t = i
      · subst e
        rw [h2 (Nat.le_refl _)]
        by_cases t0 : t = 0
        · subst t0; rw [bndTo_zero] at hx; omega
        · have hge : ¬ nth xs (t-1) < nth xs t := by
            intro h; rw [riseB_iff.2 ⟨by omega, h⟩] at hr; cases hr
          have ⟨g0, g1, g2, g3⟩ := ih (t-1) (by omega)
          have := g1 (by omega)
          omega
      · exact h1 (by omega)
    · have ha := ascTo_yes hr
      have ⟨h0, h1, h2, h3⟩ := ih t ht
      simp only [if_true]
      rw [bumpTo_nth (by rw [modTo_len]; omega), ha]
      have hi0 := (riseB_iff.1 hr).1
      rw [bndTo_pos xs hi0] at hx
      by_cases hb : t < i ∧ nth xs i ≤ nth (modTo xs i) t
      · rw [if_pos hb]
        have := h1 hb.1
        exact ⟨by omega, fun _ => by omega, fun h => by omega, by omega⟩
      · rw [if_neg hb]
        refine ⟨h0, fun ht2 => ?_, fun ht2 => h2 (by omega), h3⟩
        by_cases e : t = i
        · subst e
          rw [h2 (Nat.le_refl _)]; omega
        · have := h1 (by omega); omega
theorem mod_small {xs : List Int} (h : ascB xs = true) {i : Nat} (hi : i ≤ xs.length) {t : Nat} (ht : t < xs.length) : 0 ≤ nth (modTo xs i) t ∧ nth (modTo xs i) t ≤ 11 := by
  have ⟨h0, h1, h2, _⟩ := mod_bd h i hi t ht
  have h3 := ascTo_le xs i
  have h4 := (ascB_iff.1 h).1
  have h5 := ascB_small h ht
  by_cases e : t < i
  · have := h1 e; omega
  · rw [h2 (by omega)]; omega
theorem bump_small {xs : List Int} (h : ascB xs = true) {i : Nat} (hi : i < xs.length) {j : Nat} (hj : j ≤ i) {t : Nat} (ht : t < xs.length) : 0 ≤ nth (bumpTo (modTo xs i) (nth xs i) j) t ∧ nth (bumpTo (modTo xs i) (nth xs i) j) t ≤ 12 := by
  have := mod_small h (Nat.le_of_lt hi) ht
  rw [bumpTo_nth (by rw [modTo_len]; omega)]
  split <;> omega
theorem bump_yes {ys : List Int} {x : Int} {j : Nat} (h : x ≤ nth (bumpTo ys x j) j) : bumpTo ys x (j+1) = (bumpTo ys x j).set j (nth (bumpTo ys x j) j + 1) := by rw [bumpTo, bumpStep, if_pos h]
theorem bump_no {ys : List Int} {x : Int} {j : Nat} (h : ¬ x ≤ nth (bumpTo ys x j) j) : bumpTo ys x (j+1) = bumpTo ys x j := by rw [bumpTo, bumpStep, if_neg h]
def modL (xs : List Int) : List Int := if ascB xs then modTo xs xs.length else []
theorem modL_len (xs : List Int) : (modL xs).length ≤ 1048576 := by
  unfold modL
  split
  · rename_i h; have := (ascB_iff.1 h).1; rw [modTo_len]; omega
  · simp

def stdB (xs : List Int) : Bool := ascB xs && eqL (modTo xs xs.length) xs

theorem mod_eq {ys : List Int} : ∀ {i t : Nat}, i ≤ t + 1 → i ≤ ys.length → nth (modTo ys i) t = nth ys t
  | 0, _, _, _ => rfl
  | i+1, t, h, hl => by
    rw [modTo]
    split
    · rw [bumpTo_nth (by rw [modTo_len]; omega), if_neg (by omega), mod_eq (by omega) (by omega)]
    · exact mod_eq (by omega) (by omega)
theorem riseB_eq {xs ys : List Int} {i : Nat} (h : 0 < i → (nth xs (i-1) < nth xs i ↔ nth ys (i-1) < nth ys i)) : riseB xs i = riseB ys i := by
  rw [Bool.eq_iff_iff, riseB_iff, riseB_iff]
  constructor
  · rintro ⟨h1, h2⟩; exact ⟨h1, (h h1).1 h2⟩
  · rintro ⟨h1, h2⟩; exact ⟨h1, (h h1).2 h2⟩
/-- modifying leaves the ascents where they are -/
theorem rise_mod {ys : List Int} {i : Nat} (hi : i < ys.length) : ∀ {k : Nat}, k ≤ ys.length → riseB (modTo ys k) i = riseB ys i
  | 0, _ => rfl
  | k+1, hk => by
    have ih := rise_mod (ys := ys) hi (k := k) (by omega)
    rw [modTo]
    cases hr : riseB ys k
    · simpa using ih
    · simp only [if_true]
      rw [← ih]
      refine riseB_eq fun h0 => ?_
      rw [bumpTo_nth (by rw [modTo_len]; omega), bumpTo_nth (by rw [modTo_len]; omega)]
      have hkk := riseB_iff.1 hr
      by_cases h1 : i < k
      · split <;> split <;> omega
      · by_cases h2 : i = k
        · subst h2
          have e1 := mod_eq (ys := ys) (i := i) (t := i - 1) (by omega) (by omega)
          rw [e1, if_neg (by omega), if_neg (by omega)]
        · rw [if_neg (by omega), if_neg (by omega)]
/-- one number of a list becomes less if it is greater than x -/
def lessStep (ys : List Int) (x : Int) (j : Nat) : List Int := if x < nth ys j then ys.set j (nth ys j - 1) else ys
def lessTo (ys : List Int) (x : Int) : Nat → List Int
  | 0 => ys
  | j+1 => lessStep (lessTo ys x j) x j
theorem lessStep_len (ys : List Int) (x : Int) (j : Nat) : (lessStep ys x j).length = ys.length := by
  unfold lessStep; split <;> simp
theorem lessTo_len (ys : List Int) (x : Int) : ∀ j, (lessTo ys x j).length = ys.length
  | 0 => rfl
  | j+1 => by rw [lessTo, lessStep_len, lessTo_len ys x j]
theorem lessTo_nth {ys : List Int} {x : Int} {t : Nat} : ∀ {j : Nat}, j ≤ ys.length → nth (lessTo ys x j) t = if t < j ∧ x < nth ys t then nth ys t - 1 else nth ys t
  | 0, _ => by simp [lessTo]
  | j+1, hj => by
    have ih := fun t => lessTo_nth (ys := ys) (x := x) (t := t) (j := j) (by omega)
    have hjj : nth (lessTo ys x j) j = nth ys j := by rw [ih]; simp
    rw [lessTo, lessStep, hjj]
    by_cases hx : x < nth ys j
    · rw [if_pos hx, nth_set (by rw [lessTo_len]; omega)]
      by_cases e : j = t
      · subst e; simp [hx]
      · rw [if_neg e, ih]
        by_cases h2 : t < j ∧ x < nth ys t
        · rw [if_pos h2, if_pos ⟨by omega, h2.2⟩]
        · rw [if_neg h2, if_neg (by intro h3; exact h2 ⟨by omega, h3.2⟩)]
    · rw [if_neg hx, ih]
      by_cases h2 : t < j ∧ x < nth ys t
      · rw [if_pos h2, if_pos ⟨by omega, h2.2⟩]
      · rw [if_neg h2, if_neg (by
          rintro ⟨h3, h4⟩
          by_cases e : t = j
          · subst e; exact hx h4
          · exact h2 ⟨by omega, h4⟩)]
theorem list_ext {xs ys : List Int} (hl : xs.length = ys.length) (h : ∀ t, t < ys.length → nth xs t = nth ys t) : xs = ys := by
  apply List.ext_getElem hl
  intro t h1 h2
  have := h t h2
  rwa [nth_get _ _ h1, nth_get _ _ h2] at this
/-- undoing, d ascents' places from the end on; r tells where an ascent is -/
def undI (xs : List Int) : Nat → List Int
  | 0 => xs
  | d+1 => if riseB xs (xs.length - 1 - d) then lessTo (undI xs d) (nth (undI xs d) (xs.length - 1 - d)) (xs.length - 1 - d) else undI xs d
def undS (xs : List Int) : Nat → List Int
  | 0 => xs
  | d+1 => if riseB (undS xs d) (xs.length - 1 - d) then lessTo (undS xs d) (nth (undS xs d) (xs.length - 1 - d)) (xs.length - 1 - d) else undS xs d
theorem undI_len (xs : List Int) : ∀ d, (undI xs d).length = xs.length
  | 0 => rfl
  | d+1 => by
    rw [undI]
    split
    · rw [lessTo_len, undI_len xs d]
    · exact undI_len xs d
theorem undS_len (xs : List Int) : ∀ d, (undS xs d).length = xs.length
  | 0 => rfl
  | d+1 => by
    rw [undS]
    split
    · rw [lessTo_len, undS_len xs d]
    · exact undS_len xs d
theorem less_bump {ys : List Int} {i : Nat} (hi : i < ys.length) (hr : riseB ys i = true) : lessTo (bumpTo (modTo ys i) (nth ys i) i) (nth ys i) i = modTo ys i := by
  refine list_ext (by rw [lessTo_len, bumpTo_len]) fun t ht => ?_
  rw [modTo_len] at ht
  rw [lessTo_nth (by rw [bumpTo_len, modTo_len]; omega), bumpTo_nth (by rw [modTo_len]; omega)]
  by_cases h1 : t < i ∧ nth ys i ≤ nth (modTo ys i) t
  · rw [if_pos h1, if_pos ⟨h1.1, by omega⟩]; omega
  · rw [if_neg h1]
    by_cases h2 : t < i ∧ nth ys i < nth (modTo ys i) t
    · exact absurd ⟨h2.1, Int.le_of_lt h2.2⟩ h1
    · rw [if_neg h2]
theorem und_step {ys : List Int} {d : Nat} (hd : d < ys.length) {r : Bool} (hr : r = riseB ys (ys.length - 1 - d)) :
    (if r = true then lessTo (modTo ys (ys.length - d)) (nth (modTo ys (ys.length - d)) (ys.length - 1 - d)) (ys.length - 1 - d) else modTo ys (ys.length - d)) = modTo ys (ys.length - (d + 1)) := by
  obtain ⟨i, hi⟩ : ∃ i, i = ys.length - 1 - d := ⟨_, rfl⟩
  have e1 : ys.length - d = i + 1 := by omega
  have e2 : ys.length - (d + 1) = i := by omega
  rw [e1, e2, ← hi]
  rw [← hi] at hr
  subst hr
  rw [mod_eq (Nat.le_refl _) (by omega), modTo]
  cases hr : riseB ys i
  · simp
  · simp only [if_true]
    exact less_bump (by omega) hr
theorem undI_mod {ys : List Int} : ∀ d, d ≤ ys.length → undI (modTo ys ys.length) d = modTo ys (ys.length - d)
  | 0, _ => rfl
  | d+1, hd => by
    rw [undI, undI_mod d (by omega), modTo_len, rise_mod (by omega) (Nat.le_refl _)]
    exact und_step (by omega) rfl
theorem undS_mod {ys : List Int} : ∀ d, d ≤ ys.length → undS (modTo ys ys.length) d = modTo ys (ys.length - d)
  | 0, _ => rfl
  | d+1, hd => by
    rw [undS, undS_mod d (by omega), modTo_len, rise_mod (by omega) (by omega)]
    exact und_step (by omega) rfl
/-- is the list a modified one? -/
def unmB (xs : List Int) : Bool := decide (xs.length ≤ 12) && (allB xs 0 12 && (ascB (undS xs xs.length) && eqL (modTo (undS xs xs.length) xs.length) xs))
def unmL (xs : List Int) : List Int := if unmB xs then undS xs xs.length else []
theorem unmL_len (xs : List Int) : (unmL xs).length ≤ 1048576 := by
  unfold unmL
  split
  · rename_i h
    simp only [unmB, Bool.and_eq_true, decide_eq_true_eq] at h
    rw [undS_len]; omega
  · simp
theorem mod_all {ys : List Int} (h : ascB ys = true) : allB (modTo ys ys.length) 0 12 = true := by
  simp only [allB, List.all_eq_true]
  intro x hx
  obtain ⟨k, hk, rfl⟩ := mem_nth hx
  rw [modTo_len] at hk
  have := mod_small h (Nat.le_refl _) hk
  rw [inB_iff]; omega
theorem eqL_iff {xs ys : List Int} : eqL xs ys = true ↔ xs = ys := by simp [eqL]
/-- the program's test of what it has undone tells whether the list is a modified one -/
theorem unm_test {xs zs : List Int} (h12 : xs.length ≤ 12) (hl : zs.length = xs.length) (hz : allB xs 0 12 = true → zs = undI xs xs.length) :
    (ascB zs && eqL (modTo zs zs.length) xs) = unmB xs ∧ (unmB xs = true → zs = undS xs xs.length) := by
  have key : ∀ ys : List Int, ascB ys = true → modTo ys ys.length = xs → undI xs xs.length = ys ∧ undS xs xs.length = ys ∧ allB xs 0 12 = true := by
    intro ys hy e
    have hle : xs.length = ys.length := by rw [← e, modTo_len]
    refine ⟨?_, ?_, ?_⟩
    · rw [hle, ← e, undI_mod _ (Nat.le_refl _), Nat.sub_self]; rfl
    · rw [hle, ← e, undS_mod _ (Nat.le_refl _), Nat.sub_self]; rfl
    · rw [← e]; exact mod_all hy
  have hu : unmB xs = true → ascB (undS xs xs.length) = true ∧ modTo (undS xs xs.length) (undS xs xs.length).length = xs := by
    intro h
    simp only [unmB, Bool.and_eq_true, decide_eq_true_eq, eqL_iff] at h
    rw [undS_len]
    exact ⟨h.2.2.1, h.2.2.2⟩
  constructor
  · rw [Bool.eq_iff_iff]
    constructor
    · intro h
      rw [Bool.and_eq_true, eqL_iff] at h
      have ⟨k1, k2, k3⟩ := key zs h.1 h.2
      have h3 := h.2
      rw [hl] at h3
      simp only [unmB, k2, k3, h.1, eqL_iff.2 h3, Bool.and_true, decide_eq_true_eq]
      exact h12
    · intro h
      have ⟨u1, u2⟩ := hu h
      have ⟨k1, k2, k3⟩ := key _ u1 u2
      rw [hz k3, k1, Bool.and_eq_true, eqL_iff]
      exact ⟨u1, u2⟩
  · intro h
    have ⟨u1, u2⟩ := hu h
    have ⟨k1, k2, k3⟩ := key _ u1 u2
    rw [hz k3, k1]
theorem undS_small {xs : List Int} (h : allB xs 0 12 = true) : ∀ d, d ≤ xs.length → ∀ t, t < xs.length → 0 ≤ nth (undS xs d) t ∧ nth (undS xs d) t ≤ 12
  | 0, _, t, ht => allB_nth h ht
  | d+1, hd, t, ht => by
    have ih := undS_small h d (by omega)
    rw [undS]
    split
    · rw [lessTo_nth (by rw [undS_len]; omega)]
      have h1 := ih t ht
      have h2 := ih (xs.length - 1 - d) (by omega)
      split <;> omega
    · exact ih t ht
theorem less_yes {ys : List Int} {x : Int} {j : Nat} (h : x < nth (lessTo ys x j) j) : lessTo ys x (j+1) = (lessTo ys x j).set j (nth (lessTo ys x j) j - 1) := by rw [lessTo, lessStep, if_pos h]
theorem less_no {ys : List Int} {x : Int} {j : Nat} (h : ¬ x < nth (lessTo ys x j) j) : lessTo ys x (j+1) = lessTo ys x j := by rw [lessTo, lessStep, if_neg h]

/-- what has been modified is undone -/
theorem mod_back {xs : List Int} (h : ascB xs = true) : unmB (modTo xs xs.length) = true ∧ undS (modTo xs xs.length) (modTo xs xs.length).length = xs := by
  have e : undS (modTo xs xs.length) (modTo xs xs.length).length = xs := by
    rw [modTo_len, undS_mod xs.length (Nat.le_refl _), Nat.sub_self]; rfl
  refine ⟨?_, e⟩
  have h12 := (ascB_iff.1 h).1
  rw [unmB, e, mod_all h, h, modTo_len, decide_eq_true h12]
  simp [eqL]
theorem unm_fwd {ys : List Int} (h : unmB ys = true) : ascB (undS ys ys.length) = true ∧ modTo (undS ys ys.length) (undS ys ys.length).length = ys := by
  simp only [unmB, Bool.and_eq_true] at h
  refine ⟨h.2.2.1, ?_⟩
  have := eqL_iff.1 h.2.2.2
  rw [undS_len]; exact this
theorem unmL_back {xs : List Int} (h : ascB xs = true) : unmL (modTo xs xs.length) = xs := by
  have := mod_back h
  rw [unmL, if_pos this.1, this.2]
/-- the left ends of the intervals that are built are the modified numbers -/
theorem ag_mod {xs : List Int} (h : ascB xs = true) : ∀ i, i ≤ xs.length → ∀ j, j < i → lft (agC xs i).1 j = nth (modTo xs i) j
  | 0, _, j, hj => by omega
  | 1, hi, j, hj => by
    obtain rfl : j = 0 := by omega
    rw [ag_one h hi, mod_eq (by omega) (by omega)]
    have h1 := ascB_nth h (k := 0) (by omega)
    rw [bndTo_zero] at h1
    show (0 : Int) = _
    omega
  | i+2, hi, j, hj => by
    have ih := ag_mod h (i+1) (by omega)
    have hop := (ag_next h (i := i) (by omega) (agC_len xs (i+1)) (ag_ok h i (by omega))).1
    have hl := agC_len xs (i+1)
    rw [agC, agL, hop, modTo]
    cases hr : riseB xs (i+1)
    · rw [if_neg (by simp), if_neg (by simp)]
      by_cases e : j < i + 1
      · rw [lft_app hl e]; exact ih j e
      · obtain rfl : j = i + 1 := by omega
        rw [lft_end hl, mod_eq (by omega) (by omega)]
    · rw [if_pos rfl, if_pos rfl, bumpTo_nth (by rw [modTo_len]; omega)]
      have hl2 : (opnV (agC xs (i+1)).1 (nth xs (i+1)) (agC xs (i+1)).2 (i+1)).length = (i+1) * 2 := prs_len _ _ _
      by_cases e : j < i + 1
      · rw [lft_app hl2 e, opnV, prs_lft _ _ e, ih j e, opnL]
        by_cases e2 : nth xs (i+1) ≤ nth (modTo xs (i+1)) j
        · rw [if_pos e2, if_pos ⟨e, e2⟩]
        · rw [if_neg e2, if_neg (fun hc => e2 hc.2)]
      · obtain rfl : j = i + 1 := by omega
        rw [lft_end hl2, if_neg (by omega), mod_eq (by omega) (by omega)]

/-- modifying makes no number zero and leaves zeros alone -/
theorem mod_zero {xs : List Int} (h : ascB xs = true) : ∀ i, i ≤ xs.length → ∀ j, j < xs.length → (nth (modTo xs i) j = 0 ↔ nth xs j = 0)
  | 0, _, j, _ => Iff.rfl
  | i+1, hi, j, hj => by
    have ih := mod_zero h i (by omega) j hj
    rw [modTo]
    cases hr : riseB xs i
    · rw [if_neg (by simp)]; exact ih
    · have ⟨h0, h1⟩ := riseB_iff.1 hr
      have h2 := (ascB_nth h (k := i - 1) (by omega)).1
      have h3 := (mod_bd h i (by omega) j hj).1
      rw [if_pos rfl, bumpTo_nth (by rw [modTo_len]; omega)]
      by_cases e : j < i ∧ nth xs i ≤ nth (modTo xs i) j
      · rw [if_pos e, ← ih]; omega
      · rw [if_neg e]; exact ih
theorem bel_zero {xs : List Int} (h : ascB xs = true) (h10 : xs.length ≤ 10) {i : Nat} (hi : i < xs.length) :
    (belowTo (ivo (agC xs xs.length).1 xs.length xs.length) (i : Int) (ivo (agC xs xs.length).1 xs.length xs.length).length = 0) ↔ nth xs i = 0 := by
  have hc := ag_canon h h10
  have hl := ag_mod h xs.length (Nat.le_refl _) i hi
  have hz := mod_zero h xs.length (Nat.le_refl _) i hi
  rw [← hl] at hz
  have hg := ag_good h h10
  have hiv := ivo_is hg
  have hxl : (ivo (agC xs xs.length).1 xs.length xs.length).length = xs.length := ivo_len _ _ _
  rw [← hz]
  have hp := ag_ok h (xs.length - 1) (by omega)
  rw [show xs.length - 1 + 1 = xs.length by omega] at hp
  constructor
  · intro h0
    apply Classical.byContradiction
    intro hne
    have hb := hp.bd i hi
    have hD := hc.2.1
    obtain ⟨m, hm, em⟩ := rt_hit hiv (v := 0) (by have := (ends_in hiv (k := i) (by rw [hxl]; exact hi)).1; rw [(hc.2.2.2 i hi).1] at this; omega)
    rw [hxl] at hm
    rw [(hc.2.2.2 m hm).2] at em
    have hbit := belowTo_bit (ivo (agC xs xs.length).1 xs.length xs.length) (i : Int) m (ivo (agC xs xs.length).1 xs.length xs.length).length
    rw [h0, Nat.zero_testBit, hxl, decide_eq_true hm, Bool.true_and, ivo_has hm, decide_eq_true hi, Bool.true_and] at hbit
    have := of_decide_eq_false hbit.symm
    omega
  · intro h0
    apply Nat.eq_of_testBit_eq
    intro m
    rw [belowTo_bit, Nat.zero_testBit, hxl]
    by_cases hm : m < xs.length
    · have hb := hp.bd m hm
      rw [decide_eq_true hm, Bool.true_and, ivo_has hm, decide_eq_true hi, Bool.true_and]
      exact decide_eq_false (by omega)
    · rw [decide_eq_false hm, Bool.false_and]
/-- an ascent sequence of its matrix: it is one, and its matrix is this one -/
theorem nth_pre {xs : List Int} {x : Int} {k : Nat} (h : k < xs.length) : nth (xs ++ [x]) k = nth xs k := nth_snoc_lt h
theorem moK_pre {xs : List Int} {x : Int} : ∀ {k : Nat}, k ≤ xs.length → moK (xs ++ [x]) k = moK xs k
  | 0, _ => rfl
  | k+1, h => by rw [moK, moK, moK_pre (by omega), nth_snoc_lt (by omega)]
theorem asc_snoc {xs : List Int} {x : Int} (h : ascB xs = true) (hl : xs.length < 12) (h0 : 0 ≤ x) (h1 : x ≤ bndTo xs xs.length) : ascB (xs ++ [x]) = true := by
  have e : (xs ++ [x]).length = xs.length + 1 := by simp
  refine ascB_iff.2 ⟨by omega, fun k hk => ?_⟩
  by_cases e2 : k < xs.length
  · have := (ascB_iff.1 h).2 k e2
    rw [ascOk] at this ⊢
    rw [nth_snoc_lt e2, bnd_app (by omega)]; exact this
  · obtain rfl : k = xs.length := by omega
    rw [ascOk, nth_snoc_end, bnd_app (Nat.le_refl _)]
    exact inB_iff.2 ⟨h0, h1⟩
theorem mo_as : ∀ (n : Nat) (M : List (List Int)), mxB M = true → matS M M.length = (n : Int) → ascB (asF n M) = true ∧ moK (asF n M) n = M
  | 0, M, hM, hs => by
    have h2 := matS_ge (xss := M) (k := M.length) (fun j hj => (adB_row (mxB_iff.1 hM).1 hj).1)
    have : M = [] := List.eq_nil_of_length_eq_zero (by omega)
    subst this
    exact ⟨by decide, rfl⟩
  | n+1, M, hM, hs => by
    have h12 : matS M M.length ≤ 12 := (adB_iff.1 (mxB_iff.1 hM).1).2
    have hp : 0 < M.length := by
      rcases Nat.eq_zero_or_pos M.length with h | h
      · rw [h] at hs; simp [matS] at hs; omega
      · exact h
    have htb := topB_of hM hp
    have ⟨m1, m2⟩ := sh_mx htb
    have ⟨g1, g2⟩ := gr_sh htb
    have ⟨i1, i2⟩ := mo_as n (shL M) m1 (by omega)
    have hl := asF_len n (shL M)
    have ⟨_, g3, g4, _⟩ := gwB_iff.1 g1
    have m4 := (moK_ok i1 (k := n) (by omega)).2.2.2
    have hb := clAsc_bnd (asF n (shL M)) n
    rw [i2] at m4
    have htv : topV M = ((topN M : Nat) : Int) := by rw [topV, if_pos htb]
    refine ⟨?_, ?_⟩
    · show ascB (asF n (shL M) ++ [topV M]) = true
      refine asc_snoc i1 (by omega) (by omega) (by rw [hl]; omega)
    · show grL (moK (asF n (shL M) ++ [topV M]) n) (nth (asF n (shL M) ++ [topV M]) n).toNat = M
      rw [moK_pre (by omega), i2]
      have e : nth (asF n (shL M) ++ [topV M]) n = topV M := by
        have := nth_snoc_end (asF n (shL M)) (topV M)
        rw [hl] at this; exact this
      rw [e, htv, Int.toNat_natCast, g2]
theorem mo_asL {M : List (List Int)} (hM : mxB M = true) : ascB (asL M) = true ∧ moK (asL M) (asL M).length = M ∧ ((asL M).length : Int) = matS M M.length := by
  have h0 : 0 ≤ matS M M.length := matS_nn (fun j hj => by have := (adB_row (mxB_iff.1 hM).1 hj).1; omega)
  have h := mo_as (asN M) M hM (by rw [asN]; omega)
  have hl := asF_len (asN M) M
  rw [asL, hl]
  exact ⟨h.1, h.2, by rw [asN]; omega⟩

/-- the arcs of the matching of an order's matrix are alike with the order -/
theorem top_arcs {M : List (List Int)} (hm : mxB M = true) (h10 : matS M M.length ≤ 10) : arB (tmL M) = true ∧ (acN (tmL M) (tmL M).length : Int) = matS M M.length ∧ isIv (acN (tmL M) (tmL M).length : Int) (aroL (tmL M)) = true ∧ moL (acN (tmL M) (tmL M).length : Int) (aroL (tmL M)) = M ∧ (aroL (tmL M)).length = acN (tmL M) (tmL M).length := by
  have hmc := tm_mc hm
  have hN := tmL_N hm
  have h2 := (en_two hm).1
  have h3 := ac_half hmc
  have hr : arB (tmL M) = true := arB_iff.2 ⟨hmc, by omega⟩
  have hmx := arc_mx hr
  refine ⟨hr, by omega, ?_, ?_, ?_⟩
  · rw [aroL, if_pos hr]; exact ivo_is (ac_good hr).1
  · rw [aroL, if_pos hr, hmx.1, tm_mx hm]
  · rw [aroL, if_pos hr, ivo_len]

/-- a block that begins with these three cells -/
def Box3 (w : World) (b : Nat) (u v x : Value) : Prop := b < w.heap.size ∧ w.cell? ⟨b, 0, none⟩ = some u ∧ w.cell? ⟨b, 1, none⟩ = some v ∧ w.cell? ⟨b, 2, none⟩ = some x
theorem Box3.below {w w' : World} {b : Nat} {u v x : Value} (h : Box3 w b u v x) (hb : Below w.heap.size w w') : Box3 w' b u v x :=
  ⟨Nat.lt_of_lt_of_le h.1 hb.size, (hb.cell (p := ⟨b, 0, none⟩) h.1).trans h.2.1, (hb.cell (p := ⟨b, 1, none⟩) h.1).trans h.2.2.1, (hb.cell (p := ⟨b, 2, none⟩) h.1).trans h.2.2.2⟩
theorem Box3.new (w : World) (u v x : Value) (t : TypeId) : Box3 (w.alloc (.cells #[u, v, x] t)) w.heap.size u v x := ⟨by simp, by simp, by simp, by simp⟩
theorem Box3.kept {w w' : World} {b : Nat} {u v x : Value} {row : Option Nat} (h : Box3 w b u v x) (hg : w.grownBy w' row) (hne : some b ≠ row) : Box3 w' b u v x :=
  ⟨Nat.lt_of_lt_of_le h.1 hg.size, hg.cell h.2.1 hne, hg.cell h.2.2.1 hne, hg.cell h.2.2.2 hne⟩
theorem Box3.alloc {w : World} {b : Nat} {u v x : Value} (h : Box3 w b u v x) (o : Obj) : Box3 (w.alloc o) b u v x := h.below ((Below.refl _ _).alloc (Nat.le_refl _) o)
theorem Box3.set {w : World} {b : Nat} {u v x : Value} (h : Box3 w b u v x) {p : Addr} (y : Value) (hne : b ≠ p.block) : Box3 (w.setCell p y) b u v x :=
  h.kept (grown_set w p y) (by simpa using hne)
/-- three cells that may be written -/
def Var3 (w : World) (b : Nat) (u v x : Value) : Prop := Box3 w b u v x ∧ w.frozen? ⟨b, 0, none⟩ = false ∧ w.frozen? ⟨b, 1, none⟩ = false ∧ w.frozen? ⟨b, 2, none⟩ = false
theorem Var3.new (w : World) (u v x : Value) (t : TypeId) : Var3 (w.alloc (.cells #[u, v, x] t)) w.heap.size u v x := ⟨Box3.new w u v x t, by simp, by simp, by simp⟩
theorem Var3.below {w w' : World} {b : Nat} {u v x : Value} (h : Var3 w b u v x) (hb : Below w.heap.size w w') : Var3 w' b u v x :=
  ⟨h.1.below hb, (hb.frozen (p := ⟨b, 0, none⟩) h.1.1).trans h.2.1, (hb.frozen (p := ⟨b, 1, none⟩) h.1.1).trans h.2.2.1, (hb.frozen (p := ⟨b, 2, none⟩) h.1.1).trans h.2.2.2⟩
theorem Var3.alloc {w : World} {b : Nat} {u v x : Value} (h : Var3 w b u v x) (o : Obj) : Var3 (w.alloc o) b u v x := h.below ((Below.refl _ _).alloc (Nat.le_refl _) o)
theorem Var3.kept {w w' : World} {b : Nat} {u v x : Value} {row : Option Nat} (h : Var3 w b u v x) (hg : w.grownBy w' row) (hne : some b ≠ row) : Var3 w' b u v x :=
  ⟨h.1.kept hg hne, (World.frozen?_of_block (w := w) (a := ⟨b, 0, none⟩) (hg.block b h.1.1 hne)).trans h.2.1, (World.frozen?_of_block (w := w) (a := ⟨b, 1, none⟩) (hg.block b h.1.1 hne)).trans h.2.2.1, (World.frozen?_of_block (w := w) (a := ⟨b, 2, none⟩) (hg.block b h.1.1 hne)).trans h.2.2.2⟩
theorem Var3.other {w : World} {b : Nat} {u v x : Value} (h : Var3 w b u v x) {p : Addr} (y : Value) (hne : b ≠ p.block) : Var3 (w.setCell p y) b u v x :=
  h.kept (grown_set w p y) (by simpa using hne)
theorem Var3.set0 {w : World} {b : Nat} {u v x : Value} (h : Var3 w b u v x) (y : Value) : Var3 (w.setCell ⟨b, 0, none⟩ y) b y v x :=
  ⟨⟨by simpa using h.1.1, World.cell?_setCell_same _ _ _ h.1.2.1, by rw [World.cell?_setCell_other _ _ _ _ (by simp)]; exact h.1.2.2.1, by rw [World.cell?_setCell_other _ _ _ _ (by simp)]; exact h.1.2.2.2⟩, by simpa using h.2.1, by simpa using h.2.2.1, by simpa using h.2.2.2⟩
theorem Var3.set1 {w : World} {b : Nat} {u v x : Value} (h : Var3 w b u v x) (y : Value) : Var3 (w.setCell ⟨b, 1, none⟩ y) b u y x :=
  ⟨⟨by simpa using h.1.1, by rw [World.cell?_setCell_other _ _ _ _ (by simp)]; exact h.1.2.1, World.cell?_setCell_same _ _ _ h.1.2.2.1, by rw [World.cell?_setCell_other _ _ _ _ (by simp)]; exact h.1.2.2.2⟩, by simpa using h.2.1, by simpa using h.2.2.1, by simpa using h.2.2.2⟩
theorem Var3.set2 {w : World} {b : Nat} {u v x : Value} (h : Var3 w b u v x) (y : Value) : Var3 (w.setCell ⟨b, 2, none⟩ y) b u v y :=
  ⟨⟨by simpa using h.1.1, by rw [World.cell?_setCell_other _ _ _ _ (by simp)]; exact h.1.2.1, by rw [World.cell?_setCell_other _ _ _ _ (by simp)]; exact h.1.2.2.1, World.cell?_setCell_same _ _ _ h.1.2.2.2⟩, by simpa using h.2.1, by simpa using h.2.2.1, by simpa using h.2.2.2⟩
theorem Var3.set {w : World} {b : Nat} {u v x : Value} (h : Var3 w b u v x) (u' v' x' : Value) : Var3 (((w.setCell ⟨b, 0, none⟩ u').setCell ⟨b, 1, none⟩ v').setCell ⟨b, 2, none⟩ x') b u' v' x' := ((h.set0 u').set1 v').set2 x'

/-- n bytes that can be read -/
structure RdB (w : World) (a : Option Addr) (n : Nat) : Prop where
  cell : ∀ k, k < n → ∃ b off, a = some ⟨b, off, none⟩ ∧ b < w.heap.size ∧ ∃ x : Int, w.cell? ⟨b, off + k, none⟩ = some (.int .u8 x) ∧ 0 ≤ x ∧ x ≤ 255
theorem RdB.kept {w w' : World} {a : Option Addr} {n p : Nat} (h : RdB w a n) (hg : w.grownBy w' (some p)) (hne : 0 < n → ∀ b off, a = some ⟨b, off, none⟩ → b ≠ p) : RdB w' a n :=
  ⟨fun k hk => by
    obtain ⟨b, off, e, hl, x, hc, h0, h1⟩ := h.cell k hk
    exact ⟨b, off, e, Nat.lt_of_lt_of_le hl hg.size, x, hg.cell hc (by have := hne (by omega) b off e; simp; omega), h0, h1⟩⟩
theorem RdB.below {w w' : World} {a : Option Addr} {n : Nat} (h : RdB w a n) (hb : Below w.heap.size w w') : RdB w' a n :=
  ⟨fun k hk => by
    obtain ⟨b, off, e, hl, x, hc, h0, h1⟩ := h.cell k hk
    exact ⟨b, off, e, Nat.lt_of_lt_of_le hl hb.size, x, (hb.cell (p := ⟨b, off + k, none⟩) hl).trans hc, h0, h1⟩⟩
/-- a cursor over bytes, at most at L -/
structure Cur (w : World) (p : Nat) (L : Nat) : Prop where
  ex : ∃ (a : Option Addr) (n cap : Nat) (t s : Int), Var3 w p (.slice a n cap) (.int .i64 t) (.int .u64 s) ∧ 0 ≤ t ∧ t ≤ (L : Int) ∧ n ≤ 1048576 ∧ RdB w a n ∧ (0 < n → ∀ b off, a = some ⟨b, off, none⟩ → b < p)
theorem Cur.mono {w : World} {p L L' : Nat} (h : Cur w p L) (hl : L ≤ L') : Cur w p L' := by
  obtain ⟨a, n, cap, t, s, h1, h2, h3, h4, h5, h6⟩ := h.ex
  exact ⟨a, n, cap, t, s, h1, h2, by omega, h4, h5, h6⟩
theorem Cur.lt {w : World} {p L : Nat} (h : Cur w p L) : p < w.heap.size := by
  obtain ⟨a, n, cap, t, s, h1, _⟩ := h.ex
  exact h1.1.1
theorem Cur.below {w w' : World} {p L : Nat} (h : Cur w p L) (hb : Below w.heap.size w w') : Cur w' p L := by
  obtain ⟨a, n, cap, t, s, h1, h2, h3, h4, h5, h6⟩ := h.ex
  exact ⟨a, n, cap, t, s, h1.below hb, h2, h3, h4, h5.below hb, h6⟩
theorem Cur.kept {w w' : World} {p L : Nat} {row : Option Nat} (h : Cur w p L) (hg : w.grownBy w' row) (hne : ∀ g, row = some g → p < g) : Cur w' p L := by
  obtain ⟨a, n, cap, t, s, h1, h2, h3, h4, h5, h6⟩ := h.ex
  refine ⟨a, n, cap, t, s, h1.kept hg (fun e => by have := hne p e.symm; omega), h2, h3, h4, ⟨fun k hk => ?_⟩, h6⟩
  obtain ⟨b, off, e, hl, x, hc, h0, h1⟩ := h5.cell k hk
  exact ⟨b, off, e, Nat.lt_of_lt_of_le hl hg.size, x, hg.cell hc (fun e2 => by have := hne b e2.symm; have := h6 (by omega) b off e; omega), h0, h1⟩
theorem Cur.set {w : World} {p L : Nat} (h : Cur w p L) (a : Addr) (u : Value) (hne : p < a.block) : Cur (w.setCell a u) p L := h.kept (grown_set w a u) (fun g e => by simp only [Option.some.injEq] at e; omega)
theorem Cur.alloc {w : World} {p L : Nat} (h : Cur w p L) (o : Obj) : Cur (w.alloc o) p L := h.below ((Below.refl _ _).alloc (Nat.le_refl _) o)
/-- all but the cursor's block is as it was -/
def Drawn (w w' : World) (p : Nat) : Prop := w.grownBy w' (some p)
theorem Drawn.refl (w : World) (p : Nat) : Drawn w w p := World.grownBy.refl _ _
theorem Drawn.trans {w w1 w2 : World} {p : Nat} (h : Drawn w w1 p) (h2 : Drawn w1 w2 p) : Drawn w w2 p := grown_trans h h2
theorem Drawn.below {w w1 w2 : World} {p : Nat} (h : Drawn w w1 p) (hb : Below w1.heap.size w1 w2) : Drawn w w2 p := grown_trans h (below_grown hb (Nat.le_refl _) _)
theorem Drawn.alloc {w w1 : World} {p : Nat} (h : Drawn w w1 p) (o : Obj) : Drawn w (w1.alloc o) p := h.below ((Below.refl _ _).alloc (Nat.le_refl _) o)
theorem Drawn.of_alloc {w w1 : World} {o : Obj} {p : Nat} (h : Drawn (w.alloc o) w1 p) : Drawn w w1 p := grown_alloc_set h
theorem Drawn.size {w w1 : World} {p : Nat} (h : Drawn w w1 p) : w.heap.size ≤ w1.heap.size := World.grownBy.size h
/-- a cursor that lies at or above B: what lies below B is as it was -/
theorem Drawn.bel {w w' : World} {p B : Nat} (h : Drawn w w' p) (hp : B ≤ p) (hs : B ≤ w.heap.size) : Below B w w' := grown_below h B hp hs
theorem and255 (a : Int) : ∃ r : Nat, r ≤ 255 ∧ bits .and .u64 a 255 = (r : Int) := by
  have h : (BitVec.ofInt 64 a &&& BitVec.ofInt 64 255).toNat ≤ 255 := by
    rw [BitVec.toNat_and]
    exact Nat.and_le_right
  refine ⟨(BitVec.ofInt 64 a &&& BitVec.ofInt 64 255).toNat, h, ?_⟩
  show IntKind.u64.wrap ((BitVec.ofInt 64 a &&& BitVec.ofInt 64 255).toNat : Int) = _
  obtain ⟨r, hr⟩ : ∃ r, r = (BitVec.ofInt 64 a &&& BitVec.ofInt 64 255).toNat := ⟨_, rfl⟩
  rw [← hr] at h ⊢
  have h2 : ((r : Int)) % (2 ^ 64 : Int) = (r : Int) := Int.emod_eq_of_lt (by omega) (by omega)
  show (if IntKind.u64.signed && ((r : Int) % (2 ^ 64 : Int)) ≥ (2 ^ 63 : Int) then ((r : Int) % (2 ^ 64 : Int)) - (2 ^ 64 : Int) else ((r : Int) % (2 ^ 64 : Int))) = _
  rw [h2]
  rfl
theorem cur_set {w W : World} {p : Nat} {a t s : Value} (h : Var3 w p a t s) (hb : Below w.heap.size w W) (t' s' : Value) (k : Nat) :
    Var3 (((W.setCell ⟨p, 1, none⟩ t').setCell ⟨p, 2, none⟩ s').drewN k) p a t' s' ∧ Drawn w (((W.setCell ⟨p, 1, none⟩ t').setCell ⟨p, 2, none⟩ s').drewN k) p := by
  have h1 := ((h.below hb).set1 t').set2 s'
  have h2 : Drawn w ((W.setCell ⟨p, 1, none⟩ t').setCell ⟨p, 2, none⟩ s') p :=
    grown_trans (below_grown hb (Nat.le_refl _) _) (grown_trans (grown_set W ⟨p, 1, none⟩ t') (grown_set _ ⟨p, 2, none⟩ s'))
  exact ⟨h1.below (Joins.below_draws _ _ _), h2.below (Joins.below_draws _ _ _)⟩
theorem cur_done {w W : World} {p L n cap : Nat} {a : Option Addr} {t : Nat} {t0 s0 s' : Value} (h : Var3 w p (.slice a n cap) t0 s0) (hL : (t : Int) ≤ (L : Int)) (hn : n ≤ 1048576) (hR : RdB w a n) (hne : 0 < n → ∀ b off, a = some ⟨b, off, none⟩ → b < p) (hb : Below w.heap.size w W) {x : Int} (hs' : s' = .int .u64 x) (k : Nat) :
    Cur (((W.setCell ⟨p, 1, none⟩ (.int .i64 ((t : Int) + 1))).setCell ⟨p, 2, none⟩ s').drewN k) p (L+1) ∧ Drawn w (((W.setCell ⟨p, 1, none⟩ (.int .i64 ((t : Int) + 1))).setCell ⟨p, 2, none⟩ s').drewN k) p := by
  subst hs'
  have ⟨h1, h2⟩ := cur_set h hb (.int .i64 ((t : Int) + 1)) (.int .u64 x) k
  exact ⟨⟨a, n, cap, (t : Int) + 1, x, h1, by omega, by omega, hn, hR.kept h2 (fun h b off e => by have := hne h b off e; omega), hne⟩, h2⟩

set_option maxRecDepth 100000 in
theorem next_any (p L : Nat) (w : World) (h : Cur w p L) (hL : L ≤ 1000000000) :
    Calls Tryz.prog 96 #[.pointer (some ⟨p, 0, none⟩)] w fun e w' => ∃ r : Int, e = .returned (.int .i64 r) ∧ 0 ≤ r ∧ r ≤ 255 ∧ Cur w' p (L+1) ∧ Drawn w w' p := by
  obtain ⟨a, n, cap, t, s, hV, ht0, htL, hn, hR, hne⟩ := h.ex
  have ⟨⟨zV, cV, dV, eV⟩, fV, gV, kV⟩ := hV
  by_cases hlt : t < (n : Int)
  · obtain ⟨b, off, rfl, hbl, x, hc, hx0, hx1⟩ := hR.cell t.toNat (by omega)
    obtain ⟨t, rfl⟩ := Int.eq_ofNat_of_zero_le ht0
    rw [Int.toNat_natCast] at hc
    have hle : ((t : Int) + 1 ≤ (n : Int)) := by omega
    have hbp : b ≠ p := by have := hne (by omega) b off rfl; omega
    have HV := Lib.hid hV
    have HR := Lib.hid hR
    have HNE := Lib.hid hne
    go_enter Tryz.func96, Tryz.ntmps96
    clear hV hR hne
    go_wp2_with fail
    go_quiet (fail)
    go_wp2_with fail
    go_quiet (fail)
    go_wp2_with fail
    go_quiet (fail)
    go_wp2_with fail
    refine bodyPost_ret (v := .int .i64 x) (by simp [results, Tryz.results96, go_sem]) rfl ?_
    refine ⟨x, rfl, hx0, hx1, ?_⟩
    exact cur_done HV.out htL hn HR.out HNE.out (by first | exact Joins.below_draws _ _ _ | exact (Joins.below_draws _ _ _).trans ((Joins.below_draws _ _ _).mono (by simp))) rfl _
  · obtain ⟨t, rfl⟩ := Int.eq_ofNat_of_zero_le ht0
    have hle : ¬ ((t : Int) + 1 ≤ (n : Int)) := by omega
    have HV := Lib.hid hV
    have HR := Lib.hid hR
    have HNE := Lib.hid hne
    go_enter Tryz.func96, Tryz.ntmps96
    clear hV hR hne
    go_wp2_with fail
    go_quiet (fail)
    go_wp2_with fail
    go_quiet (fail)
    go_wp2_with fail
    obtain ⟨r, hr, er⟩ := and255 (IntKind.u64.wrap (IntKind.u64.wrap (IntKind.u64.wrap (s * 6364136223846793005)) + 1442695040888963407) / 1099511627776)
    rw [er]
    have e2 : wrap64 (r : Int) = (r : Int) := IntWalk.wrap64_in _ ⟨by omega, by omega⟩
    rw [e2]
    refine bodyPost_ret (v := .int .i64 (r : Int)) (by simp [results, Tryz.results96, go_sem]) rfl ?_
    refine ⟨r, rfl, by omega, by omega, ?_⟩
    exact cur_done HV.out htL hn HR.out HNE.out (by first | exact Joins.below_draws _ _ _ | exact (Joins.below_draws _ _ _).trans ((Joins.below_draws _ _ _).mono (by simp))) rfl _

set_option maxRecDepth 100000 in
theorem pick_any (p L : Nat) (n : Int) (w : World) (h : Cur w p L) (hL : L ≤ 900000000) (hn : n ≤ 4611686018427387904) :
    Calls Tryz.prog 62 #[.pointer (some ⟨p, 0, none⟩), .int .i64 n] w fun e w' => ∃ r : Int, e = .returned (.int .i64 r) ∧ 0 ≤ r ∧ (r < n ∨ r = 0) ∧ Cur w' p (L+2) ∧ Drawn w w' p := by
  by_cases h1 : n ≤ 1
  · go_enter Tryz.func62, Tryz.ntmps62
    go_wp2_with fail
    go_ret
    exact ⟨0, rfl, by omega, .inr rfl, h.mono (by omega), Drawn.refl _ _⟩
  · by_cases h2 : 200 < n
    · have H := Lib.hid h
      clear h
      go_enter Tryz.func62, Tryz.ntmps62
      go_wp2_with fail
      refine (next_any p L _ H.out (by omega)).mono ?_
      rintro e w1 ⟨r, rfl, hr0, hr1, hc1, hd1⟩
      have HC1 := Lib.hid hc1
      have HD1 := Lib.hid hd1
      clear hc1 hd1
      go_wp2_with fail
      refine (next_any p (L+1) _ HC1.out (by omega)).mono ?_
      rintro e w2 ⟨q, rfl, hq0, hq1, hc2, hd2⟩
      have HC2 := Lib.hid hc2
      have HD2 := Lib.hid hd2
      clear hc2 hd2
      go_wp2_with fail
      go_ret
      refine ⟨_, rfl, Int.emod_nonneg _ (by omega), .inl (Int.emod_lt_of_pos _ (by omega)), HC2.out, HD1.out.trans HD2.out⟩
    · have H := Lib.hid h
      clear h
      go_enter Tryz.func62, Tryz.ntmps62
      go_wp2_with fail
      refine (next_any p L _ H.out (by omega)).mono ?_
      rintro e w1 ⟨r, rfl, hr0, hr1, hc1, hd1⟩
      have HC1 := Lib.hid hc1
      have HD1 := Lib.hid hd1
      clear hc1 hd1
      go_wp2_with fail
      go_ret
      refine ⟨_, rfl, Int.emod_nonneg _ (by omega), .inl (Int.emod_lt_of_pos _ (by omega)), HC1.out.mono (by omega), HD1.out⟩

/-- a choice between two -/
def OneB (w : World) (p L : Nat) (e : Ending) (w' : World) : Prop := (e = .returned (.bool true) ∨ e = .returned (.bool false)) ∧ Cur w' p L ∧ Drawn w w' p
theorem one_any (p L : Nat) (n : Int) (w : World) (h : Cur w p L) (hL : L ≤ 900000000) (hn : n ≤ 4611686018427387904) :
    Calls Tryz.prog 63 #[.pointer (some ⟨p, 0, none⟩), .int .i64 n] w (OneB w p (L+2)) := by
  have H := Lib.hid h
  clear h
  go_enter Tryz.func63, Tryz.ntmps63
  go_wp2_with fail
  refine (pick_any p L n _ H.out hL hn).mono ?_
  rintro e w1 ⟨r, rfl, hr0, hr1, hc1, hd1⟩
  have HC1 := Lib.hid hc1
  have HD1 := Lib.hid hd1
  clear hc1 hd1
  cases hz : (r == 0)
  · go_wp2_with fail
    go_ret
    exact ⟨.inr rfl, HC1.out, HD1.out⟩
  · go_wp2_with fail
    go_ret
    exact ⟨.inl rfl, HC1.out, HD1.out⟩
theorem oneB_ex {e : Ending} (h : e = .returned (.bool true) ∨ e = .returned (.bool false)) : ∃ b, e = .returned (.bool b) := h.elim (fun h => ⟨true, h⟩) (fun h => ⟨false, h⟩)

theorem Var2.drawn {w w' : World} {p b : Nat} {u v : Value} (h : Var2 w b u v) (hd : Drawn w w' p) (hne : b ≠ p) : Var2 w' b u v := h.kept hd (by simpa using hne)
theorem OwnI.drawn {w w' : World} {p B : Nat} {v : Value} {xs : List Int} (h : OwnI w B v xs) (hd : Drawn w w' p) (hp : p < B) : OwnI w' B v xs :=
  h.kept hd (by
    cases e : v.ownBlock with
    | none => exact .inl rfl
    | some c => exact .inr (by have := (h.lt c e).1; simp; omega))
theorem Drawn.grown {w w1 w2 : World} {p : Nat} {v : Value} (h : Drawn w w1 p) (hg : w1.grownBy w2 v.ownBlock) (hB : ∀ c, v.ownBlock = some c → w.heap.size ≤ c) : Drawn w w2 p :=
  ⟨hg.os.trans h.os, hg.tape.trans h.tape, hg.output.trans h.output, Nat.le_trans h.size hg.size, fun k hk hn => (hg.block k (by have := h.size; omega) (fun e => by have := hB k e.symm; omega)).trans (h.block k hk hn)⟩
theorem Drawn.set {w w1 : World} {p : Nat} (h : Drawn w w1 p) (a : Addr) (u : Value) (ha : w.heap.size ≤ a.block) : Drawn w (w1.setCell a u) p :=
  ⟨h.os, h.tape, h.output, by simpa using h.size, fun k hk hn => (Below.heap_setCell w1 a u k (by omega)).trans (h.block k hk hn)⟩
/-- a length that is kept in a block's second cell -/
def lenAt (w : World) (b : Nat) : Nat := match w.cell? ⟨b, 1, none⟩ with | some (.slice _ k _) => k | _ => 0
theorem lenAt_of {w : World} {b k c : Nat} {u : Value} {a : Option Addr} (h : Var2 w b u (.slice a k c)) : lenAt w b = k := by simp [lenAt, h.1.2.2]

theorem asAscents_q (a : Option Addr) (xs : List Int) (n cap : Nat) (w : World) (hx : Rd w a xs) (hn : n ≤ xs.length) :
    Calls Tryz.prog 97 #[.slice a n cap] w fun e w' => e = .returned (.int .i64 (ascTo xs n : Nat)) ∧ ∃ m, w' = w.drewN m := by
  have hlen := hx.len
  have HA : Hid (∀ k, ascTo xs k ≤ k - 1) := ascTo_le xs
  go_enter Tryz.func97, Tryz.ntmps97
  go_wp2_with fail
  go_loopw [3, 4] (fun s i wr => ∃ k : Nat, 1 ≤ k ∧ k ≤ max 1 n ∧ i = .int .i64 k ∧ s = .int .i64 (ascTo xs k : Nat) ∧ ∃ m, wr = w.drewN m) (fun _ i _ => n + 1 - (intOf i).toNat)
  case atStart => exact ⟨1, by omega, by omega, rfl, rfl, 0, rfl⟩
  case round =>
    obtain ⟨k, hk1, hk, rfl, rfl, m0, rfl⟩ := hrel
    by_cases hlt : k < n
    · obtain ⟨b, off, rfl, hbl, hc⟩ := hx.cell k (by omega)
      obtain ⟨b', off', e', hbl', hc'⟩ := hx.cell (k-1) (by omega)
      simp only [Option.some.injEq, Addr.mk.injEq, and_true] at e'
      obtain ⟨rfl, rfl⟩ := e'
      have hak := HA.out k
      have hcast : IntKind.i64.wrap ((k : Int) - 1) = ((k - 1 : Nat) : Int) := by rw [i64_wrap, IntWalk.wrap64_in _ ⟨by omega, by omega⟩]; omega
      cases hr : riseB xs k
      · have H1 := Lib.hid (ascTo_no hr)
        have hge : ¬ nth xs (k-1) < nth xs k := by
          intro h; rw [riseB_iff.2 ⟨by omega, h⟩] at hr; cases hr
        clear hr
        go_wp2_with fail
        go_quiet (fail)
        go_wp2_with fail
        go_roundw
        case rel => exact ⟨k + 1, by omega, by omega, by go_num, by rw [H1.out], _, rfl⟩
        case measure => simp [intOf]; omega
      · have H1 := Lib.hid (ascTo_yes hr)
        have hge : nth xs (k-1) < nth xs k := (riseB_iff.1 hr).2
        clear hr
        go_wp2_with fail
        go_quiet (fail)
        go_wp2_with fail
        go_roundw
        case rel => exact ⟨k + 1, by omega, by omega, by go_num, by rw [H1.out]; go_num, _, rfl⟩
        case measure => simp [intOf]; omega
    · have HE : Hid (ascTo xs k = ascTo xs n) := by
        by_cases h0 : n = 0
        · obtain rfl : k = 1 := by omega
          rw [Hid, h0]; rfl
        · obtain rfl : k = n := by omega
          rfl
      go_wp2_with fail
      go_ret
      exact ⟨ret_int (by rw [HE.out]), m0, rfl⟩
theorem asAscents_any (a : Option Addr) (xs : List Int) (n cap : Nat) (w : World) (hx : Rd w a xs) (hn : n ≤ xs.length) :
    Calls Tryz.prog 97 #[.slice a n cap] w fun e w' => e = .returned (.int .i64 (ascTo xs n : Nat)) ∧ Below w.heap.size w w' :=
  (asAscents_q a xs n cap w hx hn).mono (fun e w' ⟨h1, m, h2⟩ => ⟨h1, by rw [h2]; exact Joins.below_draws _ _ _⟩)

theorem asBound_q (a : Option Addr) (xs : List Int) (n cap : Nat) (w : World) (hx : Rd w a xs) (hn : n ≤ xs.length) :
    Calls Tryz.prog 64 #[.slice a n cap] w fun e w' => e = .returned (.int .i64 (bndTo xs n)) ∧ ∃ m, w' = w.drewN m := by
  have hlen := hx.len
  by_cases h0 : n = 0
  · subst h0
    go_enter Tryz.func64, Tryz.ntmps64
    go_wp2_with fail
    go_ret
    exact ⟨rfl, 0, rfl⟩
  · have H1 : Hid (bndTo xs n = (ascTo xs n : Int) + 1) := bndTo_pos xs (by omega)
    have hal := ascTo_le xs n
    go_enter Tryz.func64, Tryz.ntmps64
    go_wp2_with fail
    refine (asAscents_q _ xs _ _ _ hx hn).mono ?_
    rintro e w1 ⟨rfl, m, rfl⟩
    go_wp2_with fail
    go_ret
    exact ⟨ret_int (by rw [H1.out]), m, rfl⟩
theorem asBound_any (a : Option Addr) (xs : List Int) (n cap : Nat) (w : World) (hx : Rd w a xs) (hn : n ≤ xs.length) :
    Calls Tryz.prog 64 #[.slice a n cap] w fun e w' => e = .returned (.int .i64 (bndTo xs n)) ∧ Below w.heap.size w w' :=
  (asBound_q a xs n cap w hx hn).mono (fun e w' ⟨h1, m, h2⟩ => ⟨h1, by rw [h2]; exact Joins.below_draws _ _ _⟩)
theorem asBound_is {a : Option Addr} {xs : List Int} {n cap : Nat} {w : World} (hx : Rd w a xs) (hn : n ≤ xs.length) {b : Int} (hb : bndTo xs n = b) (m : Nat) :
    Calls Tryz.prog 64 #[.slice a n cap] (w.drewN m) fun e w' => e = .returned (.int .i64 b) ∧ ∃ k, w' = w.drewN k :=
  Calls.quiet_of ((asBound_q a xs n cap (w.drewN m) (hx.below (Joins.below_draws _ _ _)) hn).mono (fun e w' hh => ⟨by rw [← hb]; exact hh.1, hh.2⟩))

theorem cur_new {w : World} {a : Option Addr} {n cap : Nat} {t : TypeId} (hR : RdB w a n) (hn : n ≤ 1048576) : Cur (w.alloc (.cells #[.slice a n cap, .int .i64 0, .int .u64 0] t)) w.heap.size 0 :=
  ⟨a, n, cap, 0, 0, Var3.new w _ _ _ t, by omega, by omega, hn, hR.below ((Below.refl _ _).alloc (Nat.le_refl _) _), fun h0 b off e => by
    obtain ⟨b', off', e', hl, _⟩ := hR.cell 0 h0
    rw [e] at e'
    simp only [Option.some.injEq, Addr.mk.injEq] at e'
    omega⟩

/-- a list of small numbers that a law draws -/
def DrawnI (w : World) (e : Ending) (w' : World) : Prop :=
  ∃ (a : Option Addr) (cap : Nat) (xs : List Int), e = .returned (.slice a xs.length cap) ∧ OwnI w' w.heap.size (.slice a xs.length cap) xs ∧ xs.length ≤ 16 ∧ (∀ k, k < xs.length → -1 ≤ nth xs k ∧ nth xs k ≤ 1024) ∧ Below w.heap.size w w'
def AscI (w : World) (p L : Nat) (e : Ending) (w' : World) : Prop :=
  ∃ (a : Option Addr) (cap : Nat) (xs : List Int), e = .returned (.slice a xs.length cap) ∧ OwnI w' w.heap.size (.slice a xs.length cap) xs ∧ xs.length ≤ 14 ∧ (∀ k, k < xs.length → -1 ≤ nth xs k ∧ nth xs k ≤ 1024) ∧ Cur w' p (L + 100) ∧ Drawn w w' p
theorem small_snoc {xs : List Int} {x : Int} (h : ∀ k, k < xs.length → -1 ≤ nth xs k ∧ nth xs k ≤ 1024) (h0 : -1 ≤ x) (h1 : x ≤ 1024) : ∀ k, k < (xs ++ [x]).length → -1 ≤ nth (xs ++ [x]) k ∧ nth (xs ++ [x]) k ≤ 1024 := fun j hj => by
  have hl : (xs ++ [x]).length = xs.length + 1 := by simp
  by_cases e : j < xs.length
  · rw [nth_snoc_lt e]; exact h j e
  · obtain rfl : j = xs.length := by omega
    rw [nth_snoc_end]; omega
theorem small_set {xs : List Int} {x : Int} {i : Nat} (hi : i < xs.length) (h : ∀ k, k < xs.length → -1 ≤ nth xs k ∧ nth xs k ≤ 1024) (h0 : -1 ≤ x) (h1 : x ≤ 1024) : ∀ k, k < (xs.set i x).length → -1 ≤ nth (xs.set i x) k ∧ nth (xs.set i x) k ≤ 1024 := fun j hj => by
  rw [nth_set hi]
  split
  · omega
  · exact h j (by simpa using hj)
def lenV : Value → Nat
  | .slice _ n _ => n
  | _ => 0
set_option maxRecDepth 100000 in
set_option maxHeartbeats 2000000 in
theorem ascent_any (p L m : Nat) (w : World) (h : Cur w p L) (hL : L ≤ 600000000) (hm : m ≤ 12) :
    Calls Tryz.prog 33 #[.pointer (some ⟨p, 0, none⟩), .int .i64 (m : Int)] w (AscI w p L) := by
  have hpw := h.lt
  have H := Lib.hid h
  clear h
  go_enter Tryz.func33, Tryz.ntmps33
  go_wp2_with fail
  refine (pick_any p L ((m : Int) + 1) _ H.out (by omega) (by omega)).mono ?_
  rintro e w1 ⟨r, rfl, hr0, hr1, hc1, hd1⟩
  obtain ⟨n, rfl⟩ := Int.eq_ofNat_of_zero_le hr0
  have hn13 : n ≤ 13 := by omega
  have HC1 := Lib.hid hc1
  have HD1 := Lib.hid hd1
  clear hc1 hd1 hr0 hr1
  go_wp2_with fail
  refine (one_any p (L + 2) 10 _ HC1.out (by omega) (by omega)).mono ?_
  rintro e w2 ⟨he, hc2, hd2⟩
  have HC2 := Lib.hid (hc2.mono (show L + 2 + 2 ≤ L + 6 by omega))
  have HD2 := Lib.hid (HD1.out.trans hd2)
  clear hc2 hd2 HC1 HD1
  rcases he with rfl | rfl
  case' inl =>
    go_wp2_with fail
    refine (pick_any p (L + 6) 2 _ HC2.out (by omega) (by omega)).mono ?_
    rintro e w3 ⟨r, rfl, hr0, hr1, hc3, hd3⟩
    obtain ⟨r0, rfl⟩ := Int.eq_ofNat_of_zero_le hr0
    obtain ⟨n, hn⟩ : ∃ n : Nat, 12 + (r0 : Int) = (n : Int) := ⟨12 + r0, by omega⟩
    have hn13 : n ≤ 13 := by omega
    have HC := Lib.hid (hc3.mono (show L + 6 + 2 ≤ L + 8 by omega))
    have HD := Lib.hid (HD2.out.trans hd3)
    have HN := Lib.hid hn
    clear hc3 hd3 hr0 hr1 HC2 HD2 hn
    go_wp2_with fail
    rw [HN.out, show wrap64 (n : Int) = n from by rw [← i64_wrap]; exact wrap64_small _ (by omega) (by omega)]
    clear HN
    rename World => W
  case' inr =>
    have HC := Lib.hid (HC2.out.mono (show L + 6 ≤ L + 8 by omega))
    have HD := HD2
    clear HC2 HD2
    go_wp2_with fail
    rename World => W
  all_goals
    go_loopw [6] (fun v wr => ∃ (k : Nat) (a : Option Addr) (cap : Nat) (xs : List Int), v = .slice a k cap ∧ xs.length = k ∧ k ≤ 13 ∧ OwnI wr w.heap.size (.slice a k cap) xs ∧ (∀ k, k < xs.length → -1 ≤ nth xs k ∧ nth xs k ≤ 1024) ∧ Cur wr p (L + 8 + 4 * k) ∧ Drawn w wr p) (fun v _ => n - lenV v)
    case atStart => exact ⟨0, none, 0, [], rfl, rfl, by omega, OwnI.nil _ _, fun k hk => by simp at hk, HC.out, HD.out⟩
    case round =>
      obtain ⟨k, a, cap, xs, rfl, hl, hk, ho, hx, hc, hd⟩ := hrel
      have HX := Lib.hid hx
      have HO := Lib.hid ho
      have HCu := Lib.hid hc
      have HDr := Lib.hid hd
      clear hx ho hc hd HC HD
      subst hl
      by_cases hlt : xs.length < n
      · have k1 : (xs.length : Int) < (n : Int) := by omega
        go_wp2_with fail
        refine (asBound_any a xs xs.length cap _ HO.out.rd (Nat.le_refl _)).mono ?_
        rintro e w4 ⟨rfl, hb4⟩
        have hbb := bndTo_le xs xs.length
        generalize bndTo xs xs.length = b at hbb
        have HO4 := Lib.hid (HO.out.below hb4 (Nat.le_refl _))
        have HC4 := Lib.hid (HCu.out.below hb4)
        have HD4 := Lib.hid (HDr.out.below hb4)
        clear hb4
        go_wp2_with fail
        refine (pick_any p (L + 8 + 4 * xs.length) (b + 1) _ HC4.out (by omega) (by omega)).mono ?_
        rintro e w5 ⟨x, rfl, hx0, hx1, hc5, hd5⟩
        have HO5 := Lib.hid (HO4.out.drawn hd5 hpw)
        have HC5 := Lib.hid hc5
        have HD5 := Lib.hid (HD4.out.trans hd5)
        clear hc5 hd5
        go_wp2_with fail
        refine (one_any p (L + 8 + 4 * xs.length + 2) 3 _ HC5.out (by omega) (by omega)).mono ?_
        rintro e w6 ⟨he, hc6, hd6⟩
        have HO6 := Lib.hid (HO5.out.drawn hd6 hpw)
        have HC6 := Lib.hid (hc6.mono (show L + 8 + 4 * xs.length + 2 + 2 ≤ L + 8 + 4 * (xs.length + 1) by omega))
        have HD6 := Lib.hid (HD5.out.trans hd6)
        have hs6 := HD6.out.size
        clear hc6 hd6
        obtain ⟨y, hy, hy0, hy1⟩ : ∃ y : Int, (e = .returned (.bool true) ∧ y = b ∨ e = .returned (.bool false) ∧ y = x) ∧ -1 ≤ y ∧ y ≤ 1024 := by
          rcases he with rfl | rfl
          · exact ⟨b, .inl ⟨rfl, rfl⟩, by omega, by omega⟩
          · exact ⟨x, .inr ⟨rfl, rfl⟩, by omega, by omega⟩
        have HX6 := Lib.hid (small_snoc HX.out hy0 hy1)
        rcases hy with ⟨rfl, rfl⟩ | ⟨rfl, rfl⟩
        all_goals
          go_wp2_with (at_builtin; refine push_at (v := .slice a xs.length cap) (z := y) rfl _ _ rfl rfl HO6.out rfl (by omega) hs6 ?_; intro v7 w7 o7 hg7 hat7; revert hat7)
          intro hat7
          obtain ⟨av7, cv7, ev7⟩ := o7.form
          subst ev7
          have hl7 : (xs ++ [y]).length = xs.length + 1 := by simp
          have hd7 := HD6.out.grown hg7 (fun c e => (HO6.out.lt c e).1)
          have hc7 := HC6.out.kept hg7 (fun g e => by have := (HO6.out.lt g e).1; omega)
          clear hat7 hg7
          go_wp2_with fail
          go_roundw
          case rel => exact ⟨xs.length + 1, av7, cv7, xs ++ [y], by rw [hl7], hl7, by omega, by rw [hl7] at o7; exact o7, HX6.out, hc7, hd7⟩
          case measure => simp [lenV]; omega
      · have k1 : ¬ (xs.length : Int) < (n : Int) := by omega
        have HCu2 := Lib.hid (HCu.out.mono (show L + 8 + 4 * xs.length ≤ L + 60 by omega))
        have hk13 := hk
        clear HCu
        go_wp2_with fail
        refine (pick_any p (L + 60) 14 _ HCu2.out (by omega) (by omega)).mono ?_
        rintro e w4 ⟨r, rfl, hr0, hr1, hc4, hd4⟩
        have HO4 := Lib.hid (HO.out.drawn hd4 hpw)
        have HC4 := Lib.hid hc4
        have HD4 := Lib.hid (HDr.out.trans hd4)
        clear hc4 hd4
        have hs4 := HD4.out.size
        by_cases h0 : r = 0
        · subst h0
          by_cases hl0 : 0 < xs.length
          · have l1 : (0 : Int) < (xs.length : Int) := by omega
            obtain ⟨g, ea, hg0, hg1⟩ := HO4.out.head hl0
            subst ea
            go_wp2_with fail
            refine (pick_any p (L + 62) (xs.length : Int) _ HC4.out (by omega) (by omega)).mono ?_
            rintro e w5 ⟨q, rfl, hq0, hq1, hc5, hd5⟩
            obtain ⟨j, rfl⟩ := Int.eq_ofNat_of_zero_le hq0
            have hj : j < xs.length := by omega
            have HO5 := Lib.hid (HO4.out.drawn hd5 hpw)
            have HC5 := Lib.hid hc5
            have HD5 := Lib.hid (HD4.out.trans hd5)
            clear hc5 hd5
            go_wp2_with fail
            refine (pick_any p (L + 64) 7 _ HC5.out (by omega) (by omega)).mono ?_
            rintro e w6 ⟨z, rfl, hz0, hz1, hc6, hd6⟩
            have HO6 := Lib.hid (HO5.out.drawn hd6 hpw)
            have HD6 := Lib.hid (HD5.out.trans hd6)
            have ho6 := HO6.out
            have ⟨cj, fj⟩ := ho6.at' rfl (i := j) hj
            have j1 : (j : Int) < (xs.length : Int) := by omega
            have HP := Lib.hid ((ho6.put rfl j (z - 1)).1)
            have HC6 := Lib.hid ((hc6.set ⟨g, j, none⟩ (.int .i64 (z - 1)) (show p < g by omega)).mono (show L + 64 + 2 ≤ L + 100 by omega))
            have HD7 := Lib.hid (HD6.out.set ⟨g, j, none⟩ (.int .i64 (z - 1)) hg0)
            have HX6 := Lib.hid (small_set (x := z - 1) hj HX.out (by omega) (by omega))
            have er : IntKind.i64.wrap (z - 1) = z - 1 := wrap64_small _ (by omega) (by omega)
            have HLN : Hid ((xs.set j (z - 1)).length = xs.length) := by simp [Hid]
            clear hc6 hd6 ho6
            go_wp2_with fail
            go_ret
            exact ⟨some ⟨g, 0, none⟩, cap, xs.set j (z - 1), by rw [HLN.out]; rfl, by rw [HLN.out]; exact HP.out, by rw [HLN.out]; omega, HX6.out, HC6.out, HD7.out⟩
          · have l1 : ¬ (0 : Int) < (xs.length : Int) := by omega
            go_wp2_with fail
            go_ret
            exact ⟨a, cap, xs, rfl, HO4.out, by omega, HX.out, HC4.out.mono (by omega), HD4.out⟩
        · have hz0 : (r == 0) = false := by simpa using h0
          by_cases h1 : r = 1
          · subst h1
            go_wp2_with fail
            refine (asBound_any a xs xs.length cap _ HO4.out.rd (Nat.le_refl _)).mono ?_
            rintro e w5 ⟨rfl, hb5⟩
            have hbb := bndTo_le xs xs.length
            generalize bndTo xs xs.length = b at hbb
            have HO5 := Lib.hid (HO4.out.below hb5 (Nat.le_refl _))
            have HC5 := Lib.hid (HC4.out.below hb5)
            have HD5 := Lib.hid (HD4.out.below hb5)
            clear hb5
            go_wp2_with fail
            refine (pick_any p (L + 62) 2 _ HC5.out (by omega) (by omega)).mono ?_
            rintro e w6 ⟨z, rfl, hz0, hz1, hc6, hd6⟩
            have HO6 := Lib.hid (HO5.out.drawn hd6 hpw)
            have HC6 := Lib.hid hc6
            have HD6 := Lib.hid (HD5.out.trans hd6)
            have hs6 := HD6.out.size
            have HX6 := Lib.hid (small_snoc (x := b + z) HX.out (by omega) (by omega))
            have er : IntKind.i64.wrap (b + z) = b + z := wrap64_small _ (by omega) (by omega)
            clear hc6 hd6
            go_wp2_with (at_builtin; refine push_at (v := .slice a xs.length cap) (z := b + z) rfl _ _ rfl rfl HO6.out rfl (by omega) hs6 ?_; intro v7 w7 o7 hg7 hat7; revert hat7)
            intro hat7
            obtain ⟨av7, cv7, ev7⟩ := o7.form
            subst ev7
            have hl7 : (xs ++ [b + z]).length = xs.length + 1 := by simp
            have hd7 := HD6.out.grown hg7 (fun c e => (HO6.out.lt c e).1)
            have hc7 := HC6.out.kept hg7 (fun g e => by have := (HO6.out.lt g e).1; omega)
            clear hat7 hg7
            go_wp2_with fail
            go_ret
            exact ⟨av7, cv7, xs ++ [b + z], rfl, o7, by omega, HX6.out, hc7.mono (by omega), hd7⟩
          · have h11 : (r == 1) = false := by simpa using h1
            go_wp2_with fail
            go_ret
            exact ⟨a, cap, xs, rfl, HO4.out, by omega, HX.out, HC4.out.mono (by omega), HD4.out⟩

set_option maxRecDepth 100000 in
theorem drOrdA_any (a : Option Addr) (n cap : Nat) (w : World) (hR : RdB w a n) (hn : n ≤ 1048576) :
    Calls Tryz.prog 27 #[.slice a n cap] w (DrawnI w) := by
  go_enter Tryz.func27, Tryz.ntmps27
  go_wp2_with fail
  have hcur := cur_new (w := w) (cap := cap) (t := 59) hR hn
  refine (ascent_any w.heap.size 0 9 _ hcur (by omega) (by omega)).mono ?_
  rintro e w1 ⟨a1, c1, xs, rfl, ho1, hl1, hx1, hc1, hd1⟩
  have b1 : Below w.heap.size w w1 := hd1.of_alloc.bel (Nat.le_refl _) (Nat.le_refl _)
  have HO1 := Lib.hid (ho1.mono (B' := w.heap.size) (by simp))
  have HX1 := Lib.hid hx1
  clear hd1 hc1 ho1 hx1
  go_wp2_with fail
  go_ret
  exact ⟨a1, c1, xs, rfl, HO1.out, by omega, HX1.out, b1⟩

theorem pSame_any (a b : Option Addr) (xs ys : List Int) (ca cb : Nat) (w : World) (hx : Rd w a xs) (hy : Rd w b ys) :
    Calls Tryz.prog 19 #[.slice a xs.length ca, .slice b ys.length cb] w fun e w' => e = .returned (.bool (eqL xs ys)) ∧ Below w.heap.size w w' := by
  have hlx := hx.len
  have hly := hy.len
  by_cases hl : xs.length = ys.length
  · have hl' : ((xs.length : Int) != (ys.length : Int)) = false := by simp [hl]
    go_enter Tryz.func19, Tryz.ntmps19
    have HL := Lib.hid hl
    clear hl
    go_wp2_with fail
    go_loopw [13] (fun i wr => ∃ k : Nat, k ≤ xs.length ∧ i = .int .i64 k ∧ xs.take k = ys.take k ∧ Below w.heap.size w wr) (fun i _ => xs.length - (intOf i).toNat)
    case atStart => exact ⟨0, Nat.zero_le _, rfl, rfl, Below.refl _ _⟩
    case round =>
      obtain ⟨k, hk, rfl, htk, hb⟩ := hrel
      have HT := Lib.hid htk
      clear htk
      by_cases hlt : k < xs.length
      · have hlt' : k < ys.length := by rw [← HL.out]; exact hlt
        obtain ⟨b1, o1, rfl, hb1, hc1⟩ := (hx.below hb).cell k hlt
        obtain ⟨b2, o2, rfl, hb2, hc2⟩ := (hy.below hb).cell k hlt'
        have k1 : (k : Int) < (xs.length : Int) := by omega
        have k2 : (k : Int) < (ys.length : Int) := by omega
        by_cases he : nth xs k = nth ys k
        · have he' : (nth xs k != nth ys k) = false := by simp [he]
          have HE := Lib.hid he
          clear he
          go_wp2_with fail
          go_quiet (fail)
          go_wp2_with fail
          go_roundw
          case rel =>
            refine ⟨k + 1, by omega, by go_num, ?_, by exact hb.trans (Joins.below_draws _ _ _)⟩
            rw [List.take_succ_eq_append_getElem hlt, List.take_succ_eq_append_getElem hlt', HT.out, ← nth_get, ← nth_get, HE.out]
          case measure => simp [intOf]; omega
        · have he' : (nth xs k != nth ys k) = true := by simp [he]
          have hne : eqL xs ys = false := by
            simp only [eqL, decide_eq_false_iff_not]
            intro e
            subst e
            exact he rfl
          have HN := Lib.hid hne
          clear he hne
          go_wp2_with fail
          go_quiet (fail)
          go_wp2_with fail
          go_ret
          exact ⟨ret_bool HN.out.symm, hb.trans (Joins.below_draws _ _ _)⟩
      · go_wp2_with fail
        go_ret
        refine ⟨ret_bool ?_, hb⟩
        have h1 := HT.out
        rw [List.take_of_length_le (by omega), List.take_of_length_le (by rw [← HL.out]; omega)] at h1
        simp [eqL, h1]
  · have hl' : ((xs.length : Int) != (ys.length : Int)) = true := by simp; omega
    have hne : eqL xs ys = false := by
      simp only [eqL, decide_eq_false_iff_not]
      intro e
      exact hl (by rw [e])
    have HN := Lib.hid hne
    clear hl hne
    go_enter Tryz.func19, Tryz.ntmps19
    go_wp2_with fail
    go_ret
    exact ⟨ret_bool HN.out.symm, Below.refl _ _⟩

theorem pSameO_any (n m : Int) (a b : Option Addr) (xs ys : List Int) (ca cb : Nat) (w : World) (hx : Rd w a xs) (hy : Rd w b ys) :
    Calls Tryz.prog 13 #[.agg #[.int .i64 n, .slice a xs.length ca], .agg #[.int .i64 m, .slice b ys.length cb]] w fun e w' => e = .returned (.bool (eqO n xs m ys)) ∧ Below w.heap.size w w' := by
  by_cases hn : n = m
  · have hn' : (n == m) = true := by simp [hn]
    have HO : Hid (eqO n xs m ys = eqL xs ys) := by simp [Hid, eqO, hn]
    clear hn
    go_enter Tryz.func13, Tryz.ntmps13
    go_wp2_with fail
    refine (pSame_any _ _ xs ys _ _ _ (hx.below (by repeat (first | exact Below.refl _ _ | assumption | refine Below.alloc ?_ (by first | exact Nat.le_refl _ | (simp only [World.size_alloc, World.size_setCell, World.size_drew]; omega) | omega) _ | refine Below.setCell ?_ (by first | exact Nat.le_refl _ | (simp only [World.size_alloc, World.size_setCell, World.size_drew]; omega) | omega) _ | refine Below.drew ?_))) (hy.below (by repeat (first | exact Below.refl _ _ | assumption | refine Below.alloc ?_ (by first | exact Nat.le_refl _ | (simp only [World.size_alloc, World.size_setCell, World.size_drew]; omega) | omega) _ | refine Below.setCell ?_ (by first | exact Nat.le_refl _ | (simp only [World.size_alloc, World.size_setCell, World.size_drew]; omega) | omega) _ | refine Below.drew ?_)))).mono ?_
    rintro e w1 ⟨rfl, hb⟩
    go_wp2_with fail
    go_ret
    exact ⟨ret_bool HO.out.symm, Below.trans (by repeat (first | exact Below.refl _ _ | assumption | refine Below.alloc ?_ (by first | exact Nat.le_refl _ | (simp only [World.size_alloc, World.size_setCell, World.size_drew]; omega) | omega) _ | refine Below.setCell ?_ (by first | exact Nat.le_refl _ | (simp only [World.size_alloc, World.size_setCell, World.size_drew]; omega) | omega) _ | refine Below.drew ?_)) (hb.mono (by first | (simp only [World.size_alloc, World.size_setCell, World.size_drew]; omega) | omega))⟩
  · have hn' : (n == m) = false := by simp [hn]
    have HO : Hid (eqO n xs m ys = false) := by simp [Hid, eqO, hn]
    clear hn
    go_enter Tryz.func13, Tryz.ntmps13
    go_wp2_with fail
    go_ret
    exact ⟨ret_bool HO.out.symm, (by repeat (first | exact Below.refl _ _ | assumption | refine Below.alloc ?_ (by first | exact Nat.le_refl _ | (simp only [World.size_alloc, World.size_setCell, World.size_drew]; omega) | omega) _ | refine Below.setCell ?_ (by first | exact Nat.le_refl _ | (simp only [World.size_alloc, World.size_setCell, World.size_drew]; omega) | omega) _ | refine Below.drew ?_))⟩

set_option maxRecDepth 100000 in
theorem pSameM_same (a b : Option Addr) (xss : List (List Int)) (ca cb : Nat) (w : World) (hx : RdC w a xss) (hy : RdC w b xss) (hn : xss.length ≤ 1048576) :
    Calls Tryz.prog 26 #[.agg #[.slice a xss.length ca], .agg #[.slice b xss.length cb]] w fun e w' => e = .returned (.bool true) ∧ Below w.heap.size w w' := by
  have b1 : Below w.heap.size w ((w.alloc (.cells #[.slice a xss.length ca] 45)).alloc (.cells #[.slice b xss.length cb] 45)) := (by repeat (first | exact Below.refl _ _ | assumption | refine Below.alloc ?_ (by first | exact Nat.le_refl _ | (simp only [World.size_alloc, World.size_setCell, World.size_drew]; omega) | omega) _ | refine Below.setCell ?_ (by first | exact Nat.le_refl _ | (simp only [World.size_alloc, World.size_setCell, World.size_drew]; omega) | omega) _ | refine Below.drew ?_))
  have HX := Lib.hid (hx.below b1)
  have HY := Lib.hid (hy.below b1)
  have HB := Lib.hid b1
  clear hx hy b1
  go_enter Tryz.func26, Tryz.ntmps26
  go_wp2_with fail
  obtain ⟨w1, hw1⟩ : ∃ x : World, x = (w.alloc (.cells #[.slice a xss.length ca] 45)).alloc (.cells #[.slice b xss.length cb] 45) := ⟨_, rfl⟩
  have hA : w.heap.size < w1.heap.size ∧ w1.cell? ⟨w.heap.size, 0, none⟩ = some (.slice a xss.length ca) := by rw [hw1]; exact ⟨by simp; omega, by simp⟩
  have hB : w.heap.size + 1 < w1.heap.size ∧ w1.cell? ⟨w.heap.size + 1, 0, none⟩ = some (.slice b xss.length cb) := by rw [hw1]; exact ⟨by simp, by simp⟩
  rw [← hw1] at HX HY HB ⊢
  have HA := Lib.hid hA
  have HC := Lib.hid hB
  clear hw1 hA hB
  go_loopw [16] (fun i wr => ∃ k : Nat, k ≤ xss.length ∧ i = .int .i64 k ∧ Below w1.heap.size w1 wr) (fun i _ => xss.length - (intOf i).toNat)
  case atStart => exact ⟨0, Nat.zero_le _, rfl, Below.refl _ _⟩
  case round =>
    obtain ⟨k, hk, rfl, hb⟩ := hrel
    by_cases hlt : k < xss.length
    · have k1 : (k : Int) < (xss.length : Int) := by omega
      have HT := Lib.hid hb
      have cA := (hb.cell (p := ⟨w.heap.size, 0, none⟩) HA.out.1).trans HA.out.2
      have cB := (hb.cell (p := ⟨w.heap.size + 1, 0, none⟩) HC.out.1).trans HC.out.2
      obtain ⟨g1, o1, a1, c1, rfl, hg1, hc1, hr1, hl1⟩ := (HX.out.below hb).row hlt
      obtain ⟨g2, o2, a2, c2, rfl, hg2, hc2, hr2, hl2⟩ := (HY.out.below hb).row hlt
      have HR1 := Lib.hid hr1
      have HR2 := Lib.hid hr2
      generalize rowL xss k = R at *
      have HEQ : Hid (eqL R R = true) := by simp [Hid, eqL]
      have h9a := hb.size
      clear hb hr1 hr2
      go_wp2_with fail
      go_region_held3 (fun w' => w'.cell? ⟨w.heap.size, 0, none⟩ = some (.slice (some ⟨g1, o1, none⟩) xss.length ca) ∧ w'.cell? ⟨w.heap.size + 1, 0, none⟩ = some (.slice (some ⟨g2, o2, none⟩) xss.length cb) ∧ w'.cell? ⟨g1, o1 + k, none⟩ = some (.slice a1 R.length c1) ∧ w'.cell? ⟨g2, o2 + k, none⟩ = some (.slice a2 R.length c2))
        (first | exact ⟨qA, qB, qC, qD⟩ | go_keep)
        (first | (go_at_call 19; refine (pSame_any a1 a2 R R c1 c2 _ (HR1.out.below (Joins.below_draws _ _ _)) (HR2.out.below (Joins.below_draws _ _ _))).mono ?_; rw [HEQ.out]; rintro e w5 ⟨rfl, hb5⟩; have ht5 : Below wr.heap.size wr w5 := (Joins.below_draws _ _ _).trans hb5; have qA := (ht5.cell (p := ⟨w.heap.size, 0, none⟩) (show w.heap.size < wr.heap.size by have := HA.out.1; omega)).trans cA; have qB := (ht5.cell (p := ⟨w.heap.size + 1, 0, none⟩) (show w.heap.size + 1 < wr.heap.size by have := HC.out.1; omega)).trans cB; have qC := (ht5.cell (p := ⟨g1, o1 + k, none⟩) hg1).trans hc1; have qD := (ht5.cell (p := ⟨g2, o2 + k, none⟩) hg2).trans hc2))
      go_wp2_with fail
      go_roundw
      case rel => exact ⟨k + 1, by omega, by go_num, HT.out.trans (ht5.mono HT.out.size)⟩
      case measure => simp [intOf]; omega
    · obtain rfl : k = xss.length := by omega
      go_wp2_with fail
      go_ret
      exact ⟨rfl, HB.out.trans (hb.mono HB.out.size)⟩

/-- are the two inputs together within the bound? -/
theorem big_any (a b : Option Addr) (n m c1 c2 : Nat) (w : World) (hn : n ≤ 9223372036854775807) (hm : m ≤ 9223372036854775807) :
    Calls Tryz.prog 6 #[.slice a n c1, .slice b m c2] w fun e w' => ((e = .returned (.bool true)) ∨ (e = .returned (.bool false) ∧ n ≤ 1048576 ∧ m ≤ 1048576)) ∧ w = w' := by
  by_cases h1 : 1048576 < (n : Int)
  · go_enter Tryz.func6, Tryz.ntmps6
    go_wp2_with fail
    go_ret
    exact ⟨.inl rfl, rfl⟩
  · by_cases h2 : 1048576 - (n : Int) < (m : Int)
    · go_enter Tryz.func6, Tryz.ntmps6
      go_wp2_with fail
      go_ret
      exact ⟨.inl rfl, rfl⟩
    · have h9 : n ≤ 1048576 ∧ m ≤ 1048576 := by omega
      go_enter Tryz.func6, Tryz.ntmps6
      go_wp2_with fail
      go_ret
      first | exact ⟨.inr ⟨rfl, h9.1, h9.2⟩, rfl⟩ | exact ⟨.inr rfl, rfl⟩

/-- the intervals of which the first q have been opened -/
def mixV (cs : List Int) (m k : Int) (n q : Nat) : List Int := prs (fun j => if j < q then opnL (lft cs j) m else lft cs j) (fun j => if j < q then opnR (lft cs j) (rgt cs j) m k else rgt cs j) n
theorem mixV_len (cs : List Int) (m k : Int) (n q : Nat) : (mixV cs m k n q).length = n * 2 := prs_len _ _ _
theorem mixV_zero {cs : List Int} {m k : Int} {n : Nat} (h : cs.length = n * 2) : mixV cs m k n 0 = cs := by
  apply nth_ext' (by rw [mixV_len, h])
  intro i hi
  rw [mixV_len] at hi
  rw [mixV, prs_nth _ _ hi]
  simp only [Nat.not_lt_zero, if_false, lft, rgt]
  split <;> (congr 1; omega)
theorem mixV_all (cs : List Int) (m k : Int) (n : Nat) : mixV cs m k n n = opnV cs m k n := by
  apply nth_ext' (by rw [mixV_len, opnV, prs_len])
  intro i hi
  rw [mixV_len] at hi
  rw [mixV, opnV, prs_nth _ _ hi, prs_nth _ _ hi]
  have : i / 2 < n := by omega
  simp only [this, if_true]
theorem mixV_lft {cs : List Int} {m k : Int} {n q j : Nat} (hj : j < n) (hq : q ≤ j) : lft (mixV cs m k n q) j = lft cs j := by
  rw [mixV, prs_lft _ _ hj, if_neg (by omega)]
theorem mixV_rgt {cs : List Int} {m k : Int} {n q j : Nat} (hj : j < n) (hq : q ≤ j) : rgt (mixV cs m k n q) j = rgt cs j := by
  rw [mixV, prs_rgt _ _ hj, if_neg (by omega)]
theorem mixV_next {cs : List Int} {m k : Int} {n q : Nat} (hq : q < n) : ((mixV cs m k n q).set (q * 2) (opnL (lft cs q) m)).set (q * 2 + 1) (opnR (lft cs q) (rgt cs q) m k) = mixV cs m k n (q+1) := by
  apply nth_ext' (by rw [List.length_set, List.length_set, mixV_len, mixV_len])
  intro i hi
  rw [List.length_set, List.length_set, mixV_len] at hi
  rw [nth_set' (by rw [List.length_set, mixV_len]; omega), nth_set' (by rw [mixV_len]; omega), mixV, mixV, prs_nth _ _ hi, prs_nth _ _ hi]
  by_cases e1 : q * 2 + 1 = i
  · subst e1
    rw [if_pos rfl, if_neg (by omega), show (q * 2 + 1) / 2 = q by omega, if_pos (by omega)]
  · rw [if_neg e1]
    by_cases e2 : q * 2 = i
    · subst e2
      rw [if_pos rfl, if_pos (by omega), show q * 2 / 2 = q by omega, if_pos (by omega)]
    · rw [if_neg e2]
      by_cases e3 : i / 2 < q
      · simp only [e3, show i / 2 < q + 1 by omega, if_true]
      · simp only [e3, show ¬ i / 2 < q + 1 by omega, if_false]
theorem elems_full : ∀ K : Fin 11, (elems (2 ^ K.val - 1)).length = K.val := by decide +kernel

/-- one pair more at the end of a row of pairs that is owned -/
theorem push_iv {ops : Array Oper} {rest : List Oper} {o : Oper} {a : Act} {Q : Exit → Act → World → Prop} (hgd : o.guard = none) (s x : Operand)
    (ho : o.op = .call { callee := .builtin .append, args := #[s, x], argTypes := #[26, 26] }) {wr : World} {B n : Nat} {v : Value} {cs : List Int} {l r : Int} {g : Nat}
    (hs : a.eval s = v) (hx : a.eval x = .slice (some ⟨g, 0, none⟩) 1 1) (hown : OwnV wr B v n cs) (hgz : wr.heap.size = g) (h63 : n ≤ 1048576) (hB : B ≤ wr.heap.size)
    (h : ∀ v' w', OwnV w' B v' (n + 1) (cs ++ [l, r]) → wr.grownBy w' v.ownBlock → (v'.ownBlock = v.ownBlock ∨ v'.ownBlock = some (g + 1)) → wpList Tryz.prog ops Q rest (a.put o.dst v') w') :
    wpList Tryz.prog ops Q (o :: rest) a (wr.alloc (.cells #[.int .i64 l, .int .i64 r] 65)) := by
  subst hgz
  obtain ⟨i0, hi, hz0, hz1, hz2⟩ := info_parts infoIv
  refine wpList_append_own_at _ hgd s x 26 ho B 65 i0 (.agg #[.int .i64 0, .int .i64 0]) 2 16 Tryz.underlying26 hi hz0 hz1 hz2 rfl (by decide) v n (cs.map (Value.int .i64)) hs (hown.alloc _) ⟨wr.heap.size, 0, none⟩ 1 1 [.int .i64 l, .int .i64 r] hx rfl (cell_two_new _ _ _ _) (two_one _ _) (by unfold maxLen; omega) (by omega) (by simp; omega) ?_
  intro v' w' ho2 hg _ hat
  refine h v' w' ?_ (grown_alloc_set hg) (by simpa using hat)
  unfold OwnV
  rw [List.map_append]
  exact ho2

set_option maxHeartbeats 2000000 in
theorem openAt_any (l r m k : Int) (w : World) (hl : 0 ≤ l ∧ l ≤ 20) (hr : 0 ≤ r ∧ r ≤ 20) (hm : 0 ≤ m ∧ m ≤ 20) (hk : 0 ≤ k ∧ k ≤ 20) :
    Calls Tryz.prog 69 #[.agg #[.int .i64 l, .int .i64 r], .int .i64 m, .int .i64 k] w fun e w' => e = .returned (.agg #[.int .i64 (opnL l m), .int .i64 (opnR l r m k)]) ∧ Below w.heap.size w w' := by
  by_cases h1 : m ≤ l
  · have HL : Hid (opnL l m = l + 1) := by rw [Hid, opnL, if_pos h1]
    have h4 : ¬ l < m := by omega
    by_cases h2 : m ≤ r
    · have HR : Hid (opnR l r m k = r + 1) := by rw [Hid, opnR, if_pos h2, if_neg (by omega)]
      by_cases h3 : r = k - 1
      all_goals
        first | (have hq : (r == k - 1) = true := by simp only [beq_iff_eq]; exact h3) | (have hq : (r == k - 1) = false := by rw [beq_eq_false_iff_ne]; exact h3)
        clear h3
        go_enter Tryz.func69, Tryz.ntmps69
        go_wp2_with fail
        refine bodyPost_ret (v := .agg #[.int .i64 (l + 1), .int .i64 (r + 1)]) (by simp [results, Tryz.results69, go_sem]) rfl ?_
        exact ⟨by rw [HL.out, HR.out], (by repeat (first | exact Below.refl _ _ | assumption | refine Below.alloc ?_ (by first | exact Nat.le_refl _ | (simp only [World.size_alloc, World.size_setCell, World.size_drew]; omega) | omega) _ | refine Below.setCell ?_ (by first | exact Nat.le_refl _ | (simp only [World.size_alloc, World.size_setCell, World.size_drew]; omega) | omega) _ | refine Below.drew ?_))⟩
    · have HR : Hid (opnR l r m k = r) := by rw [Hid, opnR, if_neg h2]
      by_cases h3 : r = k - 1
      all_goals
        first | (have hq : (r == k - 1) = true := by simp only [beq_iff_eq]; exact h3) | (have hq : (r == k - 1) = false := by rw [beq_eq_false_iff_ne]; exact h3)
        clear h3
        go_enter Tryz.func69, Tryz.ntmps69
        go_wp2_with fail
        refine bodyPost_ret (v := .agg #[.int .i64 (l + 1), .int .i64 r]) (by simp [results, Tryz.results69, go_sem]) rfl ?_
        exact ⟨by rw [HL.out, HR.out], (by repeat (first | exact Below.refl _ _ | assumption | refine Below.alloc ?_ (by first | exact Nat.le_refl _ | (simp only [World.size_alloc, World.size_setCell, World.size_drew]; omega) | omega) _ | refine Below.setCell ?_ (by first | exact Nat.le_refl _ | (simp only [World.size_alloc, World.size_setCell, World.size_drew]; omega) | omega) _ | refine Below.drew ?_))⟩
  · have HL : Hid (opnL l m = l) := by rw [Hid, opnL, if_neg h1]
    have h4 : l < m := by omega
    by_cases h2 : m ≤ r
    · by_cases h3 : r = k - 1
      · have HR : Hid (opnR l r m k = m) := by rw [Hid, opnR, if_pos h2, if_pos ⟨h3, h4⟩]
        have hq : (r == k - 1) = true := by simp [h3]
        clear h3
        go_enter Tryz.func69, Tryz.ntmps69
        go_wp2_with fail
        refine bodyPost_ret (v := .agg #[.int .i64 l, .int .i64 m]) (by simp [results, Tryz.results69, go_sem]) rfl ?_
        exact ⟨by rw [HL.out, HR.out], (by repeat (first | exact Below.refl _ _ | assumption | refine Below.alloc ?_ (by first | exact Nat.le_refl _ | (simp only [World.size_alloc, World.size_setCell, World.size_drew]; omega) | omega) _ | refine Below.setCell ?_ (by first | exact Nat.le_refl _ | (simp only [World.size_alloc, World.size_setCell, World.size_drew]; omega) | omega) _ | refine Below.drew ?_))⟩
      · have HR : Hid (opnR l r m k = r + 1) := by rw [Hid, opnR, if_pos h2, if_neg (by omega)]
        have hq : (r == k - 1) = false := by simp [h3]
        clear h3
        go_enter Tryz.func69, Tryz.ntmps69
        go_wp2_with fail
        refine bodyPost_ret (v := .agg #[.int .i64 l, .int .i64 (r + 1)]) (by simp [results, Tryz.results69, go_sem]) rfl ?_
        exact ⟨by rw [HL.out, HR.out], (by repeat (first | exact Below.refl _ _ | assumption | refine Below.alloc ?_ (by first | exact Nat.le_refl _ | (simp only [World.size_alloc, World.size_setCell, World.size_drew]; omega) | omega) _ | refine Below.setCell ?_ (by first | exact Nat.le_refl _ | (simp only [World.size_alloc, World.size_setCell, World.size_drew]; omega) | omega) _ | refine Below.drew ?_))⟩
    · have HR : Hid (opnR l r m k = r) := by rw [Hid, opnR, if_neg h2]
      by_cases h3 : r = k - 1
      all_goals
        first | (have hq : (r == k - 1) = true := by simp only [beq_iff_eq]; exact h3) | (have hq : (r == k - 1) = false := by rw [beq_eq_false_iff_ne]; exact h3)
        clear h3
        go_enter Tryz.func69, Tryz.ntmps69
        go_wp2_with fail
        refine bodyPost_ret (v := .agg #[.int .i64 l, .int .i64 r]) (by simp [results, Tryz.results69, go_sem]) rfl ?_
        exact ⟨by rw [HL.out, HR.out], (by repeat (first | exact Below.refl _ _ | assumption | refine Below.alloc ?_ (by first | exact Nat.le_refl _ | (simp only [World.size_alloc, World.size_setCell, World.size_drew]; omega) | omega) _ | refine Below.setCell ?_ (by first | exact Nat.le_refl _ | (simp only [World.size_alloc, World.size_setCell, World.size_drew]; omega) | omega) _ | refine Below.drew ?_))⟩

def oc1 (s : Int) : Int := IntKind.u64.wrap (bits .and .u64 (s / 2) 6148914691236517205 + bits .and .u64 s 6148914691236517205)
def oc2 (s : Int) : Int := IntKind.u64.wrap (bits .and .u64 (oc1 s / 4) 3689348814741910323 + bits .and .u64 (oc1 s) 3689348814741910323)
def oc3 (s : Int) : Int := bits .and .u64 (IntKind.u64.wrap (oc2 s / 16 + oc2 s)) 1085102592571150095
def oc4 (s : Int) : Int := IntKind.u64.wrap (oc3 s + oc3 s / 256)
def oc5 (s : Int) : Int := IntKind.u64.wrap (oc4 s + oc4 s / 65536)
def oc6 (s : Int) : Int := IntKind.u64.wrap (oc5 s + oc5 s / 4294967296)
theorem oc_all : ∀ s : Fin 1024, bits .and .i64 (IntKind.i64.wrap (oc6 (s.val : Int))) 127 = ((elems s.val).length : Int) := by decide +kernel
theorem oc_eq {s : Nat} (h : s < 1024) : bits .and .i64 (wrap64 (oc6 (s : Int))) 127 = ((elems s).length : Int) := by
  rw [← IntWalk.i64_left]
  exact oc_all ⟨s, h⟩
theorem ones64_any (s : Nat) (w : World) (h1 : s < 1024) :
    Calls Tryz.prog 118 #[.int .u64 (s : Int)] w fun e w' => e = .returned (.int .i64 ((elems s).length : Int)) ∧ w = w' := by
  go_enter Tryz.func118, Tryz.ntmps118
  go_wp2_with fail
  go_ret
  refine ⟨?_, rfl⟩
  rw [← oc_eq h1]
  rfl
theorem ones_any (s : Nat) (w : World) (h1 : s < 1024) :
    Calls Tryz.prog 98 #[.int .u64 (s : Int)] w fun e w' => e = .returned (.int .i64 ((elems s).length : Int)) ∧ w = w' := by
  go_enter Tryz.func98, Tryz.ntmps98
  go_wp2_with fail
  refine (ones64_any s _ h1).mono ?_
  rintro e w' ⟨rfl, rfl⟩
  go_wp2_with fail
  go_ret
  exact ⟨rfl, rfl⟩
theorem countElements_any (s : Nat) (w : World) (h1 : s < 1024) :
    Calls Tryz.prog 68 #[.int .i64 (s : Int)] w fun e w' => e = .returned (.int .i64 ((elems s).length : Int)) ∧ w = w' := by
  have s1 : (s : Int) < 1024 := by omega
  go_enter Tryz.func68, Tryz.ntmps68
  go_wp2_with fail
  refine (ones_any s _ h1).mono ?_
  rintro e w' ⟨rfl, rfl⟩
  go_wp2_with fail
  go_ret
  exact ⟨rfl, rfl⟩

set_option maxRecDepth 100000 in
set_option maxHeartbeats 4000000 in
theorem buildIv_any (a : Option Addr) (cs : List Int) (n c K : Nat) (m : Int) (B : Nat) (w : World) (hown : OwnV w B (.slice a n c) n cs) (hB : B ≤ w.heap.size) (hn : n ≤ 9) (hm : 0 ≤ m ∧ m ≤ 20) (hK : K ≤ 10) (hb : ∀ j, j < n → 0 ≤ lft cs j ∧ lft cs j < (K : Int) ∧ 0 ≤ rgt cs j ∧ rgt cs j < (K : Int)) (hf : 0 < n → 0 < K ∧ lfS cs n = 2 ^ K - 1) (h0 : n = 0 → m = 0 ∧ K = 0) :
    Calls Tryz.prog 35 #[.slice a n c, .int .i64 m] w fun e w' => ∃ a' c', e = .returned (.slice a' (n+1) c') ∧ OwnV w' B (.slice a' (n+1) c') (n+1) (agL cs n m (K : Int)) ∧ w.grownBy w' (Value.slice a n c).ownBlock := by
  have HL := Lib.hid hown.len
  by_cases hz : n = 0
  · subst hz
    obtain ⟨rfl, rfl⟩ := h0 rfl
    have hcs : cs = [] := List.eq_nil_of_length_eq_zero (by have := HL.out; omega)
    subst hcs
    have HA : Hid (agL [] 0 0 0 = [0, 0]) := by simp [Hid, agL, opnB, dTo, opnV, prs, fmap]
    go_enter Tryz.func35, Tryz.ntmps35
    go_wp2_with fail
    go_ret
    exact ⟨some ⟨w.heap.size, 0, none⟩, 1, rfl, by rw [HA.out]; exact World.ownsRow_lit w #[.int .i64 0, .int .i64 0] 1 hB (by unfold maxLen; omega) rfl, World.grownBy_alloc _ _ _⟩
  · have ⟨hK0, hfull⟩ := hf (by omega)
    obtain ⟨g, rfl, hg0, hg1⟩ := hown.head (by omega)
    have HB := Lib.hid hb
    have HLS : Hid (∀ j, j ≤ n → lfS cs j < 1024) := lfS_small hK (fun j hj => ⟨(hb j hj).1, (hb j hj).2.1⟩)
    have HF := Lib.hid hfull
    have HEL := Lib.hid (elems_full ⟨K, by omega⟩)
    have hn0 : ((n : Int) == 0) = false := by simp; omega
    clear hb hf h0 hfull
    go_enter Tryz.func35, Tryz.ntmps35
    go_wp2_with fail
    go_loopw [5, 21] (fun s i wr => ∃ j : Nat, j ≤ n ∧ i = .int .i64 j ∧ s = .int .i64 ((lfS cs j : Nat) : Int) ∧ Below w.heap.size w wr) (fun _ i _ => n - (intOf i).toNat)
    case atStart => exact ⟨0, Nat.zero_le _, rfl, rfl, Below.refl _ _⟩
    case round =>
      obtain ⟨j, hj, rfl, rfl, hb⟩ := hrel
      have hbs := hb.size
      have o1 := hown.below hb (Nat.le_refl _)
      have hls := HLS.out j hj
      by_cases hlt : j < n
      · obtain ⟨b, off, e1, hbl, hc1, hc2⟩ := (o1.rd (by omega)).pair HL.out hlt
        simp only [Option.some.injEq, Addr.mk.injEq, and_true] at e1
        obtain ⟨rfl, rfl⟩ := e1
        rw [Nat.zero_add] at hc1 hc2
        have ⟨l0, l1, r0, r1⟩ := HB.out j hlt
        obtain ⟨L, hL⟩ := Int.eq_ofNat_of_zero_le l0
        have HN : Hid (lfS cs (j+1) = lfS cs j ||| 2 ^ L) := by rw [Hid, lfS, hL]; rfl
        rw [hL] at hc1 l1
        have HO := Lib.hid (or_bit (b := lfS cs j) (k := L) (by omega) (by omega))
        clear hL l0
        go_wp2_with fail
        go_roundw
        case rel => exact ⟨j + 1, by omega, by go_num, by rw [HO.out, HN.out], hb.alloc hbs _⟩
        case measure => simp [intOf]; omega
      · obtain rfl : j = n := by omega
        have HCE := Lib.hid (countElements_any (lfS cs j) wr hls)
        go_wp2_with fail
        refine HCE.out.mono ?_
        rintro e w2 ⟨rfl, rfl⟩
        rw [HF.out, HEL.out]
        go_wp2_with fail
        go_loopw [9, 36] (fun d i wr => ∃ q : Nat, q ≤ j ∧ i = .int .i64 q ∧ d = .int .i64 (dTo cs (K : Int) q) ∧ Below w.heap.size w wr) (fun _ i _ => j - (intOf i).toNat)
        case atStart => exact ⟨0, Nat.zero_le _, rfl, rfl, hb⟩
        case round =>
          clear hb hbs o1 hls HCE
          obtain ⟨q, hq, rfl, rfl, hb⟩ := hrel
          have hbs := hb.size
          have o1 := hown.below hb (Nat.le_refl _)
          have hdl := (dTo_le (cs := cs) (k := (K : Int)) (n := q)).1
          by_cases hlt2 : q < j
          · obtain ⟨b, off, e1, hbl, hc1, hc2⟩ := (o1.rd (by omega)).pair HL.out hlt2
            simp only [Option.some.injEq, Addr.mk.injEq, and_true] at e1
            obtain ⟨rfl, rfl⟩ := e1
            rw [Nat.zero_add] at hc1 hc2
            have ⟨l0, l1, r0, r1⟩ := HB.out q hlt2
            by_cases hr : rgt cs q = (K : Int) - 1
            · have HN : Hid (dTo cs (K : Int) (q+1) = min (dTo cs (K : Int) q) (lft cs q)) := by rw [Hid, dTo, if_pos hr]
              have hq1 : (rgt cs q == (K : Int) - 1) = true := by simp [hr]
              clear hr
              go_wp2_with fail
              go_roundw
              case rel => exact ⟨q + 1, by omega, by go_num, val_int (by rw [HN.out] <;> (first | rfl | omega | (split <;> omega))), hb.alloc hbs _⟩
              case measure => simp [intOf]; omega
            · have HN : Hid (dTo cs (K : Int) (q+1) = dTo cs (K : Int) q) := by rw [Hid, dTo, if_neg hr]
              have hq1 : (rgt cs q == (K : Int) - 1) = false := by simp [hr]
              clear hr
              go_wp2_with fail
              go_roundw
              case rel => exact ⟨q + 1, by omega, by go_num, by rw [HN.out], hb.alloc hbs _⟩
              case measure => simp [intOf]; omega
          · obtain rfl : q = j := by omega
            have g2 : (0 : Int) < (K : Int) := by omega
            by_cases hmd : m ≤ dTo cs (K : Int) q
            · have HA : Hid (agL cs q m (K : Int) = cs ++ [m, (K : Int) - 1]) := by
                have : opnB cs q m (K : Int) = false := by simp [opnB, hmd, hK0]
                simp [Hid, agL, this]
              go_wp2_with (at_builtin; refine push_iv rfl _ _ rfl rfl rfl o1 rfl (by omega) (by omega) ?_; intro v5 w5 o5 hg5 hat5)
              obtain ⟨a5, c5, rfl⟩ := o5.form
              go_ret
              exact ⟨a5, c5, rfl, by rw [HA.out]; exact o5, grown_trans (below_grown hb (Nat.le_refl _) _) hg5⟩
            · have HA : Hid (agL cs q m (K : Int) = opnV cs m (K : Int) q ++ [m, (K : Int)]) := by
                have : opnB cs q m (K : Int) = true := by simp [opnB, hmd]
                simp [Hid, agL, this]
              have o2 : OwnV wr B (.slice (some ⟨g, 0, none⟩) q c) q (mixV cs m (K : Int) q 0) := by rw [mixV_zero HL.out]; exact o1
              have hg2 : w.grownBy wr (some g) := below_grown hb (Nat.le_refl _) _
              go_wp2_with fail
              go_loopw [62] (fun i wi => ∃ p : Nat, p ≤ q ∧ i = .int .i64 p ∧ OwnV wi B (.slice (some ⟨g, 0, none⟩) q c) q (mixV cs m (K : Int) q p) ∧ w.grownBy wi (some g)) (fun i _ => q - (intOf i).toNat)
              case atStart => exact ⟨0, Nat.zero_le _, rfl, o2, hg2⟩
              case round =>
                clear hb hbs o1 o2 hg2
                obtain ⟨p, hp, rfl, hown2, hgw⟩ := hrel
                by_cases hlt3 : p < q
                · have hml := mixV_len cs m (K : Int) q p
                  have ⟨c1, f1⟩ := hown2.at' (i := p * 2) (by omega)
                  have ⟨c2, f2⟩ := hown2.at' (i := p * 2 + 1) (by omega)
                  have e1 : nth (mixV cs m (K : Int) q p) (p * 2) = lft cs p := mixV_lft hlt3 (Nat.le_refl _)
                  have e2 : nth (mixV cs m (K : Int) q p) (p * 2 + 1) = rgt cs p := mixV_rgt hlt3 (Nat.le_refl _)
                  rw [e1] at c1
                  rw [e2] at c2
                  have ⟨l0, l1, r0, r1⟩ := HB.out p hlt3
                  have HX : Hid (((mixV cs m (K : Int) q p).set (p * 2) (opnL (lft cs p) m)).set (p * 2 + 1) (opnR (lft cs p) (rgt cs p) m (K : Int)) = mixV cs m (K : Int) q (p+1)) := mixV_next hlt3
                  have hgl := (hown2.lt g rfl).2
                  have hBg := (hown2.lt g rfl).1
                  clear e1 e2
                  go_wp2_with fail
                  refine (openAt_any _ _ _ _ _ (by omega) (by omega) hm (by omega)).mono ?_
                  rintro e w3 ⟨rfl, hb3⟩
                  have ht3 : Below wr.heap.size wr w3 := Below.trans (by repeat (first | exact Below.refl _ _ | assumption | refine Below.alloc ?_ (by first | exact Nat.le_refl _ | (simp only [World.size_alloc, World.size_setCell, World.size_drew]; omega) | omega) _ | refine Below.setCell ?_ (by first | exact Nat.le_refl _ | (simp only [World.size_alloc, World.size_setCell, World.size_drew]; omega) | omega) _ | refine Below.drew ?_)) (hb3.mono (by first | (simp only [World.size_alloc, World.size_setCell, World.size_drew]; omega) | omega))
                  have o3 := hown2.below ht3 (Nat.le_refl _)
                  have ⟨c3, f3⟩ := o3.at' (i := p * 2) (by omega)
                  have ⟨c4, f4⟩ := o3.at' (i := p * 2 + 1) (by omega)
                  have q1 := o3.put (p * 2) (opnL (lft cs p) m)
                  have q2 := q1.1.put (p * 2 + 1) (opnR (lft cs p) (rgt cs p) m (K : Int))
                  rw [HX.out] at q2
                  have HQ2 := Lib.hid (And.intro q2.1 (grown_trans (grown_trans (grown_trans hgw (below_grown ht3 (Nat.le_refl _) _)) q1.2) q2.2))
                  clear hown2 q1 q2 hml c1 f1 c2 f2 hgw
                  go_wp2_with fail
                  go_roundw
                  case rel => exact ⟨p + 1, by omega, by go_num, HQ2.out.1, HQ2.out.2⟩
                  case measure => simp [intOf]; omega
                · obtain rfl : p = q := by omega
                  rw [mixV_all] at hown2
                  have hgs := hgw.size
                  go_wp2_with (at_builtin; refine push_iv rfl _ _ rfl rfl rfl hown2 rfl (by omega) (by omega) ?_; intro v5 w5 o5 hg5 hat5)
                  obtain ⟨a5, c5, rfl⟩ := o5.form
                  go_ret
                  exact ⟨a5, c5, rfl, by rw [HA.out]; exact o5, grown_trans hgw hg5⟩

theorem noClimb_any (w : World) :
    Calls Tryz.prog 65 #[] w fun e w' => e = .returned (.agg #[.int .i64 (-1), .int .i64 (-1)]) ∧ Below w.heap.size w w' := by
  go_enter Tryz.func65, Tryz.ntmps65
  go_wp2
  refine bodyPost_ret (v := .agg #[.int .i64 (-1), .int .i64 (-1)]) (by simp [results, Tryz.results65, go_sem]) rfl ⟨rfl, ?_⟩
  exact (by repeat (first | exact Below.refl _ _ | assumption | refine Below.alloc ?_ (by first | exact Nat.le_refl _ | (simp only [World.size_alloc, World.size_setCell, World.size_drew]; omega) | omega) _ | refine Below.setCell ?_ (by first | exact Nat.le_refl _ | (simp only [World.size_alloc, World.size_setCell, World.size_drew]; omega) | omega) _ | refine Below.drew ?_))
theorem greatest_any (l c : Int) (w : World) (h0 : -1 ≤ c) (h1 : c ≤ 1000) :
    Calls Tryz.prog 66 #[.agg #[.int .i64 l, .int .i64 c]] w fun e w' => e = .returned (.int .i64 (c + 1)) ∧ Below w.heap.size w w' := by
  go_enter Tryz.func66, Tryz.ntmps66
  go_wp2
  go_ret
  exact ⟨rfl, (by repeat (first | exact Below.refl _ _ | assumption | refine Below.alloc ?_ (by first | exact Nat.le_refl _ | (simp only [World.size_alloc, World.size_setCell, World.size_drew]; omega) | omega) _ | refine Below.setCell ?_ (by first | exact Nat.le_refl _ | (simp only [World.size_alloc, World.size_setCell, World.size_drew]; omega) | omega) _ | refine Below.drew ?_))⟩
theorem by_any (l c x : Int) (w : World) (h0 : -1 ≤ c) (h1 : c ≤ 1000) :
    Calls Tryz.prog 67 #[.agg #[.int .i64 l, .int .i64 c], .int .i64 x] w fun e w' => e = .returned (.agg #[.int .i64 x, .int .i64 (byA l c x)]) ∧ Below w.heap.size w w' := by
  by_cases h : l < x
  · have H : Hid (byA l c x = c + 1) := by simp [Hid, byA, h]
    go_enter Tryz.func67, Tryz.ntmps67
    go_wp2
    refine bodyPost_ret (v := .agg #[.int .i64 x, .int .i64 (c + 1)]) (by simp [results, Tryz.results67, go_sem]) rfl ⟨by rw [H.out], ?_⟩
    exact (by repeat (first | exact Below.refl _ _ | assumption | refine Below.alloc ?_ (by first | exact Nat.le_refl _ | (simp only [World.size_alloc, World.size_setCell, World.size_drew]; omega) | omega) _ | refine Below.setCell ?_ (by first | exact Nat.le_refl _ | (simp only [World.size_alloc, World.size_setCell, World.size_drew]; omega) | omega) _ | refine Below.drew ?_))
  · have H : Hid (byA l c x = c) := by simp [Hid, byA, h]
    go_enter Tryz.func67, Tryz.ntmps67
    go_wp2
    refine bodyPost_ret (v := .agg #[.int .i64 x, .int .i64 c]) (by simp [results, Tryz.results67, go_sem]) rfl ⟨by rw [H.out], ?_⟩
    exact (by repeat (first | exact Below.refl _ _ | assumption | refine Below.alloc ?_ (by first | exact Nat.le_refl _ | (simp only [World.size_alloc, World.size_setCell, World.size_drew]; omega) | omega) _ | refine Below.setCell ?_ (by first | exact Nat.le_refl _ | (simp only [World.size_alloc, World.size_setCell, World.size_drew]; omega) | omega) _ | refine Below.drew ?_))

theorem iIsAscent_any (a : Option Addr) (xs : List Int) (cap : Nat) (w : World) (hx : Rd w a xs) :
    Calls Tryz.prog 34 #[.slice a xs.length cap] w fun e w' => e = .returned (.bool (ascB xs)) ∧ Below w.heap.size w w' := by
  have hlen := hx.len
  by_cases hl : xs.length ≤ 12
  · go_enter Tryz.func34, Tryz.ntmps34
    go_wp2_with fail
    refine (noClimb_any _).mono ?_
    rintro e w1 ⟨rfl, hb1⟩
    have hz1 := hb1.size
    have V1 : Var2 (w1.alloc (.cells #[.int .i64 (-1), .int .i64 (-1)] 89)) w1.heap.size (.int .i64 (-1)) (.int .i64 (-1)) := Var2.new w1 _ _ _
    have b2 : Below w.heap.size w (w1.alloc (.cells #[.int .i64 (-1), .int .i64 (-1)] 89)) := hb1.alloc hz1 _
    go_wp2_with fail
    obtain ⟨g, hg⟩ : ∃ g, g = w1.heap.size := ⟨_, rfl⟩
    rw [← hg] at V1 hz1 ⊢
    clear hg
    go_loopw [12] (fun i wr => ∃ k : Nat, k ≤ xs.length ∧ i = .int .i64 k ∧ (∀ j, j < k → ascOk xs j = true) ∧ Var2 wr g (.int .i64 (clLast xs k)) (.int .i64 (clAsc xs k)) ∧ Below w.heap.size w wr) (fun i _ => xs.length - (intOf i).toNat)
    case atStart => exact ⟨0, Nat.zero_le _, rfl, fun j hj => by omega, V1, b2⟩
    case round =>
      clear V1 b2 hb1
      obtain ⟨k, hk, rfl, hall, hV, hb⟩ := hrel
      have HA := Lib.hid hall
      have ⟨⟨zV, cV, dV⟩, fV, gV⟩ := hV
      have ⟨ca0, ca1⟩ := clAsc_lt xs k
      clear hall
      by_cases hlt : k < xs.length
      · have hxr := hx.below hb
        obtain ⟨b, off, rfl, hbl, hc⟩ := hxr.cell k hlt
        by_cases h0 : nth xs k < 0
        · have HO : Hid (ascB xs = false) := ascB_no hlt (by rw [ascOk, inB_no]; omega)
          go_wp2_with fail
          go_ret
          exact ⟨ret_bool HO.out.symm, hb⟩
        · by_cases h1 : clAsc xs k + 1 < nth xs k
          · have HO : Hid (ascB xs = false) := ascB_no hlt (by rw [ascOk, inB_no, ← clAsc_bnd]; omega)
            go_wp2_with fail
            refine (greatest_any _ _ _ ca0 (by omega)).mono ?_
            rintro e w2 ⟨rfl, hb2⟩
            go_wp2_with fail
            go_ret
            exact ⟨ret_bool HO.out.symm, hb.trans (hb2.mono hb.size)⟩
          · have HM : Hid (ascOk xs k = true) := by rw [Hid, ascOk, inB_iff, ← clAsc_bnd]; omega
            have HS : Hid (byA (clLast xs k) (clAsc xs k) (nth xs k) = clAsc xs (k+1)) := clAsc_succ (by omega)
            have HL : Hid (clLast xs (k+1) = nth xs k) := clLast_succ xs k
            go_wp2_with fail
            refine (greatest_any _ _ _ ca0 (by omega)).mono ?_
            rintro e w2 ⟨rfl, hb2⟩
            have V2 := hV.below hb2
            have ⟨⟨zV2, cV2, dV2⟩, fV2, gV2⟩ := V2
            clear cV dV fV gV
            go_wp2_with fail
            refine (by_any _ _ _ _ ca0 (by omega)).mono ?_
            rintro e w3 ⟨rfl, hb3⟩
            have V3 := V2.below hb3
            have ⟨⟨zV3, cV3, dV3⟩, fV3, gV3⟩ := V3
            clear cV2 dV2 fV2 gV2
            rw [HS.out]
            have b3 : Below w.heap.size w w3 := (hb.trans (hb2.mono hb.size)).trans (hb3.mono (Nat.le_trans hb.size hb2.size))
            go_wp2_with fail
            go_roundw
            case rel =>
              refine ⟨k + 1, by omega, by go_num, fun j hj => ?_, by rw [HL.out]; exact V3.set _ _, (b3.setCell (p := ⟨g, 0, none⟩) hz1 _).setCell (p := ⟨g, 1, none⟩) hz1 _⟩
              by_cases e : j = k
              · rw [e]; exact HM.out
              · exact HA.out j (by omega)
            case measure => simp [intOf]; omega
      · obtain rfl : k = xs.length := by omega
        have HO : Hid (ascB xs = true) := ascB_iff.2 ⟨hl, HA.out⟩
        go_wp2_with fail
        go_ret
        exact ⟨ret_bool HO.out.symm, hb⟩
  · have HO := Lib.hid (ascB_long hl)
    go_enter Tryz.func34, Tryz.ntmps34
    go_wp2_with fail
    go_ret
    exact ⟨ret_bool HO.out.symm, Below.refl _ _⟩

theorem ag_bd {xs : List Int} (h : ascB xs = true) {i : Nat} (hi : i < xs.length) (h10 : xs.length ≤ 10) :
    (0 ≤ nth xs i ∧ nth xs i ≤ 20) ∧ (0 ≤ (agC xs i).2 ∧ (agC xs i).2 ≤ 20) ∧ (∀ j, j < i → 0 ≤ lft (agC xs i).1 j ∧ lft (agC xs i).1 j ≤ 20 ∧ 0 ≤ rgt (agC xs i).1 j ∧ rgt (agC xs i).1 j ≤ 20) ∧ (0 < i → 0 < (agC xs i).2) := by
  have h1 := ascB_small h hi
  refine ⟨by omega, ?_⟩
  cases i with
  | zero => exact ⟨by simp [agC], fun j hj => by omega, fun h => by omega⟩
  | succ i =>
    have hp := ag_ok h i (by omega)
    have h2 := ascTo_le xs (i+1)
    have h3 := hp.asc
    refine ⟨by omega, fun j hj => ?_, fun _ => by omega⟩
    have := hp.bd j hj
    omega

theorem ag_no {xs : List Int} (h : agB xs = false) : agN xs = 0 ∧ agV xs = [] := by simp [agN, agV, h]
theorem ag_yes {xs : List Int} (h : agB xs = true) : agN xs = xs.length ∧ agV xs = (agC xs xs.length).1 := by simp [agN, agV, h]

theorem ag_nat {xs : List Int} (h : ascB xs = true) {i : Nat} (hi : i < xs.length) (h10 : xs.length ≤ 10) : ∃ K : Nat, (agC xs i).2 = (K : Int) ∧ K ≤ 10 ∧ (∀ j, j < i → 0 ≤ lft (agC xs i).1 j ∧ lft (agC xs i).1 j < (K : Int) ∧ 0 ≤ rgt (agC xs i).1 j ∧ rgt (agC xs i).1 j < (K : Int)) ∧ (0 < i → 0 < K ∧ lfS (agC xs i).1 i = 2 ^ K - 1) ∧ (i = 0 → nth xs i = 0 ∧ K = 0) := by
  cases i with
  | zero =>
    have h1 := ascB_nth h hi
    rw [bndTo_zero] at h1
    exact ⟨0, rfl, by omega, fun j hj => by omega, fun h => by omega, fun _ => ⟨by omega, rfl⟩⟩
  | succ i =>
    have hp := ag_ok h i (by omega)
    have h2 := ascTo_le xs (i+1)
    have h3 := hp.asc
    obtain ⟨K, hK⟩ := Int.eq_ofNat_of_zero_le (show 0 ≤ (agC xs (i+1)).2 by omega)
    have hb : ∀ j, j < i + 1 → 0 ≤ lft (agC xs (i+1)).1 j ∧ lft (agC xs (i+1)).1 j < (K : Int) ∧ 0 ≤ rgt (agC xs (i+1)).1 j ∧ rgt (agC xs (i+1)).1 j < (K : Int) := fun j hj => by
      have := hp.bd j hj
      omega
    exact ⟨K, hK, by omega, hb, fun _ => ⟨by omega, lfS_full (fun j hj => ⟨(hb j hj).1, (hb j hj).2.1⟩) (fun v h0 h1 => hp.all v h0 (by omega))⟩, fun h => by omega⟩
theorem iIntervals_any (a : Option Addr) (xs : List Int) (cap : Nat) (w : World) (hx : Rd w a xs) (_ : xs.length ≤ cap) :
    Calls Tryz.prog 8 #[.slice a xs.length cap] w (GotV w (agN xs) (agV xs) (agB xs)) := by
  have hlen := hx.len
  unfold GotV
  cases h : ascB xs
  · have HB : Hid (agB xs = false) := by simp [Hid, agB, h]
    have HN : Hid (agN xs = 0 ∧ agV xs = []) := by simp [Hid, agN, agV, HB.out]
    have HA := Lib.hid h
    clear h
    go_enter Tryz.func8, Tryz.ntmps8
    go_wp2_with fail
    refine (iIsAscent_any _ _ _ _ hx).mono ?_
    rintro e w1 ⟨rfl, hb⟩
    rw [HA.out]
    go_wp2_with fail
    refine bodyPost_ret (v := .tuple #[.slice none 0 0, .bool false]) (by simp [results, Tryz.results8, go_sem]) rfl ?_
    exact ⟨none, 0, by rw [HN.out.1, HB.out], by rw [HN.out.1, HN.out.2]; exact OwnV.nil _ _, hb⟩
  · by_cases h10 : xs.length ≤ 10
    · have HB : Hid (agB xs = true) := by simp [Hid, agB, h, h10]
      have HN : Hid (agN xs = xs.length ∧ agV xs = (agC xs xs.length).1) := by simp [Hid, agN, agV, HB.out]
      have HA := Lib.hid h
      clear h
      go_enter Tryz.func8, Tryz.ntmps8
      go_wp2_with fail
      refine (iIsAscent_any _ _ _ _ hx).mono ?_
      rintro e w1 ⟨rfl, hb⟩
      rw [HA.out]
      go_wp2_with fail
      go_loopw [4, 17] (fun v i wr => ∃ j : Nat, j ≤ xs.length ∧ i = .int .i64 j ∧ OwnV wr w.heap.size v j (agC xs j).1 ∧ Below w.heap.size w wr) (fun _ i _ => xs.length - (intOf i).toNat)
      case atStart => exact ⟨0, Nat.zero_le _, rfl, OwnV.nil _ _, hb⟩
      case round =>
        clear hb
        obtain ⟨j, hj, rfl, hown, hb⟩ := hrel
        have hbs := hb.size
        obtain ⟨av, cv, rfl⟩ := hown.form
        by_cases hlt : j < xs.length
        · obtain ⟨b, off, rfl, hbl, hc⟩ := (hx.below hb).cell j hlt
          have ⟨K, hK, hK10, hbd, hfull, hz⟩ := ag_nat HA.out hlt h10
          have ⟨x0, x1⟩ := ascB_small HA.out hlt
          have HN1 : Hid ((agC xs (j+1)).1 = agL (agC xs j).1 j (nth xs j) (K : Int)) := by rw [Hid, ← hK]; rfl
          have hcall := buildIv_any av (agC xs j).1 j cv K (nth xs j) w.heap.size wr hown hbs (by omega) ⟨x0, by omega⟩ hK10 hbd hfull hz
          have HCL := Lib.hid hcall
          have hlt4 := Lib.hid hown.lt
          clear hcall hK hbd hfull hz hown
          go_wp2_with fail
          refine HCL.out.mono ?_
          rintro e w2 ⟨a2, c2, rfl, ho2, hg2⟩
          go_wp2_with fail
          go_roundw
          case rel => exact ⟨j + 1, by omega, by go_num, by rw [HN1.out]; exact ho2, hb.trans (below_of_grown hg2 (fun c e => (hlt4.out c e).1) hbs)⟩
          case measure => simp [intOf]; omega
        · obtain rfl : j = xs.length := by omega
          go_wp2_with fail
          refine bodyPost_ret (v := .tuple #[.slice av xs.length cv, .bool true]) (by simp [results, Tryz.results8, go_sem]) rfl ?_
          exact ⟨av, cv, by rw [HN.out.1, HB.out], by rw [HN.out.1, HN.out.2]; exact hown, hb⟩
    · have HB : Hid (agB xs = false) := by simp [Hid, agB, h10]
      have HN : Hid (agN xs = 0 ∧ agV xs = []) := by simp [Hid, agN, agV, HB.out]
      have HA := Lib.hid h
      clear h
      go_enter Tryz.func8, Tryz.ntmps8
      go_wp2_with fail
      refine (iIsAscent_any _ _ _ _ hx).mono ?_
      rintro e w1 ⟨rfl, hb⟩
      rw [HA.out]
      go_wp2_with fail
      refine bodyPost_ret (v := .tuple #[.slice none 0 0, .bool false]) (by simp [results, Tryz.results8, go_sem]) rfl ?_
      exact ⟨none, 0, by rw [HN.out.1, HB.out], by rw [HN.out.1, HN.out.2]; exact OwnV.nil _ _, hb⟩

theorem isBefore_any (x y x' y' : Int) (w : World) :
    Calls Tryz.prog 74 #[.agg #[.int .i64 x, .int .i64 y], .agg #[.int .i64 x', .int .i64 y']] w fun e w' => e = .returned (.bool (decide (y < x'))) ∧ Below w.heap.size w w' := by
  by_cases h : y < x'
  all_goals
    go_enter Tryz.func74, Tryz.ntmps74
    go_wp2
    go_ret
    exact ⟨ret_bool (by simp [h]), (by repeat (first | exact Below.refl _ _ | assumption | refine Below.alloc ?_ (by first | exact Nat.le_refl _ | (simp only [World.size_alloc, World.size_setCell, World.size_drew]; omega) | omega) _ | refine Below.setCell ?_ (by first | exact Nat.le_refl _ | (simp only [World.size_alloc, World.size_setCell, World.size_drew]; omega) | omega) _ | refine Below.drew ?_))⟩

theorem cmpBefore_any (a : Option Addr) (cs : List Int) (n cap : Nat) (x y : Int) (w : World) (hx : Rd w a cs) (hl : cs.length = n * 2) (hn : n ≤ 10) :
    Calls Tryz.prog 73 #[.slice a n cap, .agg #[.int .i64 x, .int .i64 y], .func (.func 74) #[] #[]] w fun e w' => e = .returned (.int .i64 (befTo cs y n)) ∧ Below w.heap.size w w' := by
  have HL := Lib.hid hl
  clear hl
  go_enter Tryz.func73, Tryz.ntmps73
  go_wp2_with fail
  go_loopw [7, 12] (fun s i wr => ∃ k : Nat, k ≤ n ∧ i = .int .i64 k ∧ s = .int .i64 (befTo cs y k) ∧ Below w.heap.size w wr ∧ Box2 wr w.heap.size (.int .i64 x) (.int .i64 y)) (fun _ i _ => n - (intOf i).toNat)
  case atStart => exact ⟨0, Nat.zero_le _, rfl, rfl, (by repeat (first | exact Below.refl _ _ | assumption | refine Below.alloc ?_ (by first | exact Nat.le_refl _ | (simp only [World.size_alloc, World.size_setCell, World.size_drew]; omega) | omega) _ | refine Below.setCell ?_ (by first | exact Nat.le_refl _ | (simp only [World.size_alloc, World.size_setCell, World.size_drew]; omega) | omega) _ | refine Below.drew ?_)), Box2.new w _ _ _⟩
  case round =>
    obtain ⟨k, hk, rfl, rfl, hb, hB⟩ := hrel
    have ⟨zB, cB, dB⟩ := hB
    have hzr := hb.size
    by_cases hlt : k < n
    · obtain ⟨b, off, rfl, hbl, hc1, hc2⟩ := (hx.below hb).pair HL.out hlt
      have hbs := befTo_small cs y (k := k) (by omega)
      have hor := Lib.hid (or_bit (b := befTo cs y k) (k := k) (by omega) (by omega))
      clear hbs
      by_cases hlt2 : y < lft cs k
      · have HS : Hid (befTo cs y (k+1) = befTo cs y k ||| 2 ^ k) := by rw [Hid, befTo, if_pos hlt2]
        have hd : decide (y < lft cs k) = true := by simp [hlt2]
        clear hlt2
        go_wp2_with fail
        refine (isBefore_any _ _ _ _ _).mono ?_
        rw [hd]
        rintro e w2 ⟨rfl, hb2⟩
        have ht2 : Below wr.heap.size wr w2 := Below.trans (by repeat (first | exact Below.refl _ _ | assumption | refine Below.alloc ?_ (by first | exact Nat.le_refl _ | (simp only [World.size_alloc, World.size_setCell, World.size_drew]; omega) | omega) _ | refine Below.setCell ?_ (by first | exact Nat.le_refl _ | (simp only [World.size_alloc, World.size_setCell, World.size_drew]; omega) | omega) _ | refine Below.drew ?_)) (hb2.mono (by first | (simp only [World.size_alloc, World.size_setCell, World.size_drew]; omega) | omega))
        have bw2 := hb.trans (ht2.mono hb.size)
        have B2 := hB.below ht2
        clear hb2 cB dB hc1 hc2
        go_wp2_with fail
        go_roundw
        case rel => exact ⟨k + 1, by omega, by go_num, val_int (by rw [hor.out, HS.out]), bw2, B2⟩
        case measure => simp [intOf]; omega
      · have HS : Hid (befTo cs y (k+1) = befTo cs y k) := by rw [Hid, befTo, if_neg hlt2]
        have hd : decide (y < lft cs k) = false := by simp; omega
        clear hlt2
        go_wp2_with fail
        refine (isBefore_any _ _ _ _ _).mono ?_
        rw [hd]
        rintro e w2 ⟨rfl, hb2⟩
        have ht2 : Below wr.heap.size wr w2 := Below.trans (by repeat (first | exact Below.refl _ _ | assumption | refine Below.alloc ?_ (by first | exact Nat.le_refl _ | (simp only [World.size_alloc, World.size_setCell, World.size_drew]; omega) | omega) _ | refine Below.setCell ?_ (by first | exact Nat.le_refl _ | (simp only [World.size_alloc, World.size_setCell, World.size_drew]; omega) | omega) _ | refine Below.drew ?_)) (hb2.mono (by first | (simp only [World.size_alloc, World.size_setCell, World.size_drew]; omega) | omega))
        have bw2 := hb.trans (ht2.mono hb.size)
        have B2 := hB.below ht2
        clear hb2 cB dB hc1 hc2
        go_wp2_with fail
        go_roundw
        case rel => exact ⟨k + 1, by omega, by go_num, val_int (by rw [HS.out]), bw2, B2⟩
        case measure => simp [intOf]; omega
    · obtain rfl : k = n := by omega
      go_wp2_with fail
      go_ret
      exact ⟨rfl, hb⟩

theorem isWrong_any (x y : Int) (w : World) :
    Calls Tryz.prog 101 #[.agg #[.int .i64 x, .int .i64 y]] w fun e w' => e = .returned (.bool (wrongB x y)) ∧ Below w.heap.size w w' := by
  by_cases h1 : x < -1000
  · have H : Hid (wrongB x y = true) := by simp [Hid, wrongB, h1]
    go_enter Tryz.func101, Tryz.ntmps101
    go_wp2
    go_ret
    exact ⟨ret_bool H.out.symm, (by repeat (first | exact Below.refl _ _ | assumption | refine Below.alloc ?_ (by first | exact Nat.le_refl _ | (simp only [World.size_alloc, World.size_setCell, World.size_drew]; omega) | omega) _ | refine Below.setCell ?_ (by first | exact Nat.le_refl _ | (simp only [World.size_alloc, World.size_setCell, World.size_drew]; omega) | omega) _ | refine Below.drew ?_))⟩
  · by_cases h2 : y < x
    · have H : Hid (wrongB x y = true) := by simp [Hid, wrongB, h2]
      go_enter Tryz.func101, Tryz.ntmps101
      go_wp2
      go_ret
      exact ⟨ret_bool H.out.symm, (by repeat (first | exact Below.refl _ _ | assumption | refine Below.alloc ?_ (by first | exact Nat.le_refl _ | (simp only [World.size_alloc, World.size_setCell, World.size_drew]; omega) | omega) _ | refine Below.setCell ?_ (by first | exact Nat.le_refl _ | (simp only [World.size_alloc, World.size_setCell, World.size_drew]; omega) | omega) _ | refine Below.drew ?_))⟩
    · have H : Hid (wrongB x y = decide (1000 < y)) := by simp [Hid, wrongB, h1, h2]
      go_enter Tryz.func101, Tryz.ntmps101
      go_wp2
      go_ret
      exact ⟨ret_bool (by rw [H.out]), (by repeat (first | exact Below.refl _ _ | assumption | refine Below.alloc ?_ (by first | exact Nat.le_refl _ | (simp only [World.size_alloc, World.size_setCell, World.size_drew]; omega) | omega) _ | refine Below.setCell ?_ (by first | exact Nat.le_refl _ | (simp only [World.size_alloc, World.size_setCell, World.size_drew]; omega) | omega) _ | refine Below.drew ?_))⟩

/-- the first wrong pair, or -1 -/
def idxW (cs : List Int) (n : Nat) : Int := match (List.range n).find? (fun k => wrongB (lft cs k) (rgt cs k)) with | some k => (k : Int) | none => -1
theorem idxW_at {cs : List Int} {n k : Nat} (hk : k < n) (h : wrongB (lft cs k) (rgt cs k) = true) (hb : ∀ j, j < k → wrongB (lft cs j) (rgt cs j) = false) : idxW cs n = (k : Int) := by
  have : (List.range n).find? (fun k => wrongB (lft cs k) (rgt cs k)) = some k := by
    rw [List.find?_range_eq_some]
    exact ⟨h, by simpa using hk, fun j hj => by simp [hb j hj]⟩
  rw [idxW, this]
theorem idxW_none {cs : List Int} {n : Nat} (h : ∀ j, j < n → wrongB (lft cs j) (rgt cs j) = false) : idxW cs n = -1 := by
  have : (List.range n).find? (fun k => wrongB (lft cs k) (rgt cs k)) = none := by
    rw [List.find?_eq_none]
    intro x hx
    simp [h x (by simpa using hx)]
  rw [idxW, this]
theorem indexWrong_any (a : Option Addr) (cs : List Int) (n cap : Nat) (w : World) (hx : Rd w a cs) (hl : cs.length = n * 2) (hn : n ≤ 1048576) :
    Calls Tryz.prog 119 #[.slice a n cap, .func (.func 101) #[] #[]] w fun e w' => e = .returned (.int .i64 (idxW cs n)) ∧ Below w.heap.size w w' := by
  have HL := Lib.hid hl
  clear hl
  go_enter Tryz.func119, Tryz.ntmps119
  go_wp2_with fail
  go_loopw [8] (fun i wr => ∃ k : Nat, k ≤ n ∧ i = .int .i64 k ∧ (∀ j, j < k → wrongB (lft cs j) (rgt cs j) = false) ∧ Below w.heap.size w wr) (fun i _ => n - (intOf i).toNat)
  case atStart => exact ⟨0, Nat.zero_le _, rfl, fun j hj => by omega, Below.refl _ _⟩
  case round =>
    obtain ⟨k, hk, rfl, hall, hb⟩ := hrel
    have HA := Lib.hid hall
    clear hall
    by_cases hlt : k < n
    · obtain ⟨b, off, rfl, hbl, hc1, hc2⟩ := (hx.below hb).pair HL.out hlt
      cases hw : wrongB (lft cs k) (rgt cs k)
      · have HW := Lib.hid hw
        go_wp2_with fail
        refine (isWrong_any _ _ _).mono ?_
        rw [HW.out]
        rintro e w2 ⟨rfl, hb2⟩
        have bw2 := hb.trans (hb2.mono hb.size)
        go_wp2_with fail
        go_roundw
        case rel =>
          refine ⟨k + 1, by omega, by go_num, fun j hj => ?_, bw2⟩
          by_cases e : j = k
          · rw [e]; exact HW.out
          · exact HA.out j (by omega)
        case measure => simp [intOf]; omega
      · have HI := Lib.hid (idxW_at hlt hw HA.out)
        have HW := Lib.hid hw
        go_wp2_with fail
        refine (isWrong_any _ _ _).mono ?_
        rw [HW.out]
        rintro e w2 ⟨rfl, hb2⟩
        have bw2 := hb.trans (hb2.mono hb.size)
        go_wp2_with fail
        go_ret
        exact ⟨ret_int HI.out.symm, bw2⟩
    · obtain rfl : k = n := by omega
      have HI := Lib.hid (idxW_none HA.out)
      go_wp2_with fail
      go_ret
      exact ⟨ret_int HI.out.symm, hb⟩
theorem containsWrong_any (a : Option Addr) (cs : List Int) (n cap : Nat) (w : World) (hx : Rd w a cs) (hl : cs.length = n * 2) (hn : n ≤ 1048576) :
    Calls Tryz.prog 100 #[.slice a n cap, .func (.func 101) #[] #[]] w fun e w' => e = .returned (.bool (decide (0 ≤ idxW cs n))) ∧ Below w.heap.size w w' := by
  go_enter Tryz.func100, Tryz.ntmps100
  go_wp2_with fail
  refine (indexWrong_any _ _ _ _ _ hx hl hn).mono ?_
  rintro e w2 ⟨rfl, hb2⟩
  clear hl
  go_wp2_with fail
  go_ret
  exact ⟨rfl, hb2⟩
theorem good_idx {cs : List Int} {n : Nat} (h : n ≤ 10) : goodV cs n = !decide (0 ≤ idxW cs n) := by
  cases hg : goodV cs n
  · have h1 : ∃ k, k < n ∧ wrongB (lft cs k) (rgt cs k) = true := by
      apply Classical.byContradiction
      intro hne
      have : goodV cs n = true := goodV_iff.2 ⟨h, fun k hk => by
        cases hw : wrongB (lft cs k) (rgt cs k)
        · rfl
        · exact absurd ⟨k, hk, hw⟩ hne⟩
      rw [hg] at this; cases this
    unfold idxW
    cases hf : (List.range n).find? (fun k => wrongB (lft cs k) (rgt cs k)) with
    | none =>
      obtain ⟨k, hk, hw⟩ := h1
      rw [List.find?_eq_none] at hf
      exact absurd hw (hf k (by simpa using hk))
    | some k => simp
  · rw [idxW_none (goodV_iff.1 hg).2]; rfl

theorem iAreIntervals_any (a : Option Addr) (cs : List Int) (n cap : Nat) (w : World) (hx : Rd w a cs) (hl : cs.length = n * 2) (hn : n ≤ 1048576) :
    Calls Tryz.prog 72 #[.slice a n cap] w fun e w' => e = .returned (.bool (goodV cs n)) ∧ Below w.heap.size w w' := by
  by_cases h : n ≤ 10
  · have H := Lib.hid (good_idx (cs := cs) h)
    have HL := Lib.hid hl
    clear hl
    go_enter Tryz.func72, Tryz.ntmps72
    go_wp2_with fail
    refine (containsWrong_any _ _ _ _ _ hx HL.out hn).mono ?_
    rintro e w2 ⟨rfl, hb2⟩
    go_wp2_with fail
    go_ret
    exact ⟨ret_bool (by rw [H.out]), hb2⟩
  · have H := Lib.hid (goodV_big (cs := cs) (n := n) (by omega))
    clear hl
    go_enter Tryz.func72, Tryz.ntmps72
    go_wp2_with fail
    go_ret
    exact ⟨ret_bool H.out.symm, Below.refl _ _⟩

theorem iOrderOfIv_any (a : Option Addr) (cs : List Int) (n cap : Nat) (w : World) (hx : Rd w a cs) (hl : cs.length = n * 2) (hn : n ≤ 1048576) :
    Calls Tryz.prog 38 #[.slice a n cap] w (GotO w (ooN cs n) (ooL cs n) (goodV cs n)) := by
  obtain ⟨i0, hi, hz0, hz1, hz2⟩ := info_parts infoInt
  have HL := Lib.hid hl
  clear hl
  have hx1 := hx.alloc (.cells #[.int .i64 0, .slice none 0 0] 31)
  cases hg : goodV cs n
  · have H1 : Hid (ooN cs n = 0) := by simp [Hid, ooN, hg]
    have H2 : Hid (ooL cs n = []) := by simp [Hid, ooL, hg]
    have HG := Lib.hid hg
    clear hg
    go_enter Tryz.func38, Tryz.ntmps38
    go_wp2_with fail
    refine (iAreIntervals_any _ _ _ _ _ hx1 HL.out hn).mono ?_
    rw [HG.out]
    rintro e w1 ⟨rfl, hb1⟩
    have R1 : Var2 w1 w.heap.size (.int .i64 0) (.slice none 0 0) := (Var2.new w _ _ _).below hb1
    have ⟨⟨zR, cR, dR⟩, fR, gR⟩ := R1
    have bw1 : Below w.heap.size w w1 := Below.trans (by repeat (first | exact Below.refl _ _ | assumption | refine Below.alloc ?_ (by first | exact Nat.le_refl _ | (simp only [World.size_alloc, World.size_setCell, World.size_drew]; omega) | omega) _ | refine Below.setCell ?_ (by first | exact Nat.le_refl _ | (simp only [World.size_alloc, World.size_setCell, World.size_drew]; omega) | omega) _ | refine Below.drew ?_)) (hb1.mono (by first | (simp only [World.size_alloc, World.size_setCell, World.size_drew]; omega) | omega))
    clear hb1
    go_wp2_with fail
    have R3 := R1.set (.int .i64 0) (.slice none 0 0)
    refine bodyPost_ret (v := .tuple #[.agg #[.int .i64 0, .slice none 0 0], .bool false]) (by have ⟨⟨_, q1, q2⟩, _, _⟩ := R3; simp [results, Tryz.results38, go_sem, q1, q2]) rfl ?_
    refine ⟨none, 0, ?_, ?_, ?_⟩
    · rw [H1.out, H2.out]; rfl
    · rw [H2.out]; exact OwnI.nil _ _
    · exact (bw1.setCell (by simp) _).setCell (by simp) _
  · have ⟨hn10, hbd⟩ := goodV_iff.1 hg
    have H1 : Hid (ooN cs n = (n : Int)) := by simp [Hid, ooN, hg]
    have H2 : Hid (ooL cs n = ivo cs n n) := by simp [Hid, ooL, hg]
    have HG := Lib.hid hg
    clear hg hbd
    go_enter Tryz.func38, Tryz.ntmps38
    go_wp2_with fail
    refine (iAreIntervals_any _ _ _ _ _ hx1 HL.out hn).mono ?_
    rw [HG.out]
    rintro e w1 ⟨rfl, hb1⟩
    have R1 : Var2 w1 w.heap.size (.int .i64 0) (.slice none 0 0) := (Var2.new w _ _ _).below hb1
    have bw1 : Below w.heap.size w w1 := Below.trans (by repeat (first | exact Below.refl _ _ | assumption | refine Below.alloc ?_ (by first | exact Nat.le_refl _ | (simp only [World.size_alloc, World.size_setCell, World.size_drew]; omega) | omega) _ | refine Below.setCell ?_ (by first | exact Nat.le_refl _ | (simp only [World.size_alloc, World.size_setCell, World.size_drew]; omega) | omega) _ | refine Below.drew ?_)) (hb1.mono (by first | (simp only [World.size_alloc, World.size_setCell, World.size_drew]; omega) | omega))
    have hz1' : w.heap.size + 1 ≤ w1.heap.size := by have := R1.1.1; omega
    clear hb1
    go_wp2_with (at_make; refine wpList_make_full _ rfl (.tmp 12) (.tmp 12) 24 rfl (w.heap.size + 1) 3 i0 (.int .i64 0) 1 Tryz.underlying24 hi hz0 hz1 .i64 .i64 _ _ n rfl rfl rfl rfl (by rw [hz2]; omega) (by unfold maxLen; omega) hz1' ?_; intro w2 hown hgrow)
    have R2 := R1.kept hgrow (by simp)
    have hb2 : Below w.heap.size w w2 := bw1.grown hgrow bw1.size (fun k h => by cases h)
    have hown0 := made_row (ivE cs n) hown
    obtain ⟨g, hg⟩ : ∃ g, g = w1.heap.size := ⟨_, rfl⟩
    rw [← hg] at hown0 ⊢
    have hgz : w.heap.size + 1 ≤ g := by omega
    clear hown hgrow R1 hg
    go_wp2_with fail
    go_loopw [16] (fun i wr => ∃ k : Nat, k ≤ n ∧ i = .int .i64 k ∧ OwnI wr (w.heap.size + 1) (.slice (some ⟨g, 0, none⟩) n n) (rowF (ivE cs n) n k) ∧ Below w.heap.size w wr ∧ Var2 wr w.heap.size (.int .i64 0) (.slice none 0 0)) (fun i _ => n - (intOf i).toNat)
    case atStart => exact ⟨0, Nat.zero_le _, rfl, hown0, hb2, R2⟩
    case round =>
      obtain ⟨k, hk, rfl, hown, hb, hR⟩ := hrel
      have hzr := hb.size
      by_cases hlt : k < n
      · obtain ⟨b, off, rfl, hbl, hc1, hc2⟩ := (hx.below hb).pair HL.out hlt
        have k0 : (0 : Int) ≤ (k : Int) := by omega
        have k1 : (k : Int) < (n : Int) := by omega
        go_wp2_with fail
        refine (cmpBefore_any _ _ _ _ _ _ _ ((hx.below hb).alloc _) HL.out hn10).mono ?_
        rintro e w3 ⟨rfl, hb3⟩
        have ht3 : Below wr.heap.size wr w3 := Below.trans (by repeat (first | exact Below.refl _ _ | assumption | refine Below.alloc ?_ (by first | exact Nat.le_refl _ | (simp only [World.size_alloc, World.size_setCell, World.size_drew]; omega) | omega) _ | refine Below.setCell ?_ (by first | exact Nat.le_refl _ | (simp only [World.size_alloc, World.size_setCell, World.size_drew]; omega) | omega) _ | refine Below.drew ?_)) (hb3.mono (by first | (simp only [World.size_alloc, World.size_setCell, World.size_drew]; omega) | omega))
        have o3 := hown.below ht3 (Nat.le_refl _)
        have bw3 := hb.trans (ht3.mono hb.size)
        have R3 := hR.below ht3
        have hrl := rowF_len (ivE cs n) hk
        have ⟨ci, fi⟩ := o3.at' hrl.symm (i := k) (by omega)
        have hput := o3.put hrl.symm k (ivE cs n k)
        rw [rowF_set _ hlt] at hput
        have HP := Lib.hid hput.1
        have R4 := R3.kept hput.2 (by simp; omega)
        have bw4 := bw3.setCell (p := ⟨g, k, none⟩) (show w.heap.size ≤ g by omega) (.int .i64 (ivE cs n k))
        have HE : Hid (((befTo cs (rgt cs k) n : Nat) : Int) = ivE cs n k) := rfl
        rw [HE.out]
        clear hput hrl hown o3 hb3 hc1 hc2 R3
        go_wp2_with fail
        go_roundw
        case rel => exact ⟨k + 1, by omega, by go_num, HP.out, bw4, R4⟩
        case measure => simp [intOf]; omega
      · obtain rfl : k = n := by omega
        rw [rowF_end] at hown
        have ho : OwnI wr (w.heap.size + 1) (.slice (some ⟨g, 0, none⟩) k k) (ivo cs k k) := hown
        have ⟨⟨zR, cR, dR⟩, fR, gR⟩ := hR
        clear hown
        go_wp2_with fail
        have R3 := hR.set (.int .i64 (k : Int)) (.slice (some ⟨g, 0, none⟩) k k)
        refine bodyPost_ret (v := .tuple #[.agg #[.int .i64 (k : Int), .slice (some ⟨g, 0, none⟩) k k], .bool true]) (by have ⟨⟨_, q1, q2⟩, _, _⟩ := R3; simp [results, Tryz.results38, go_sem, q1, q2]) rfl ?_
        refine ⟨some ⟨g, 0, none⟩, k, ?_, ?_, ?_⟩
        · rw [H1.out, H2.out, ivo_len]
        · rw [H2.out, ivo_len]
          exact ((ho.setBelow (p := ⟨w.heap.size, 0, none⟩) (show w.heap.size < w.heap.size + 1 by omega) _).setBelow (p := ⟨w.heap.size, 1, none⟩) (show w.heap.size < w.heap.size + 1 by omega) _).mono (by omega)
        · exact (hb.setCell (p := ⟨w.heap.size, 0, none⟩) (Nat.le_refl _) _).setCell (p := ⟨w.heap.size, 1, none⟩) (Nat.le_refl _) _

theorem got_no {w w' : World} {n : Int} {ys : List Int} {ok : Bool} (h1 : n = 0) (h2 : ys = []) (h3 : ok = false) (hb : Below w.heap.size w w') : GotO w n ys ok (.returned (.tuple #[.agg #[.int .i64 0, .slice none 0 0], .bool false])) w' := by
  subst h1 h2 h3
  exact ⟨none, 0, rfl, OwnI.nil _ _, hb⟩

theorem iOrderAsc_any (a : Option Addr) (xs : List Int) (cap : Nat) (w : World) (hx : Rd w a xs) (hcap : xs.length ≤ cap) :
    Calls Tryz.prog 11 #[.slice a xs.length cap] w (GotO w (aoO xs) (aoL xs) (agB xs)) := by
  have hlen := hx.len
  have hx1 := hx.alloc (.cells #[.int .i64 0, .slice none 0 0] 31)
  have R1 : Var2 (w.alloc (.cells #[.int .i64 0, .slice none 0 0] 31)) w.heap.size (.int .i64 0) (.slice none 0 0) := Var2.new w _ _ _
  have bw1 : Below w.heap.size w (w.alloc (.cells #[.int .i64 0, .slice none 0 0] 31)) := (Below.refl _ _).alloc (Nat.le_refl _) _
  cases hB : agB xs
  · have H1 : Hid (aoO xs = 0) := by simp [Hid, aoO, hB]
    have H2 : Hid (aoL xs = []) := by simp [Hid, aoL, hB]
    have HB := Lib.hid hB
    clear hB
    go_enter Tryz.func11, Tryz.ntmps11
    go_wp2_with fail
    refine (iIntervals_any _ _ _ _ hx1 hcap).mono ?_
    rintro e w1 ⟨a1, c1, rfl, ho1, hb⟩
    rw [HB.out]
    have R2 := R1.below hb
    have bw2 := bw1.trans (hb.mono bw1.size)
    have ⟨⟨zR, cR, dR⟩, fR, gR⟩ := R2
    go_wp2_with fail
    have R3 := R2.set (.int .i64 0) (.slice none 0 0)
    refine bodyPost_ret (v := .tuple #[.agg #[.int .i64 0, .slice none 0 0], .bool false]) (by have ⟨⟨_, q1, q2⟩, _, _⟩ := R3; simp [results, Tryz.results11, go_sem, q1, q2]) rfl ?_
    exact got_no H1.out H2.out rfl ((bw2.setCell (p := ⟨w.heap.size, 0, none⟩) (Nat.le_refl _) _).setCell (p := ⟨w.heap.size, 1, none⟩) (Nat.le_refl _) _)
  · have ⟨hA, h10⟩ := agB_iff.1 hB
    have H1 : Hid (aoO xs = (xs.length : Int)) := by simp [Hid, aoO, hB]
    have H2 : Hid (aoL xs = ivo (agC xs xs.length).1 xs.length xs.length) := by simp [Hid, aoL, hB]
    have H3 : Hid (agN xs = xs.length) := by simp [Hid, agN, hB]
    have H4 : Hid (agV xs = (agC xs xs.length).1) := by simp [Hid, agV, hB]
    have HCL := Lib.hid (agC_len xs xs.length)
    have hg := ag_good hA h10
    have H5 : Hid (ooN (agC xs xs.length).1 xs.length = (xs.length : Int)) := by simp [Hid, ooN, hg]
    have H6 : Hid (ooL (agC xs xs.length).1 xs.length = ivo (agC xs xs.length).1 xs.length xs.length) := by simp [Hid, ooL, hg]
    have HG := Lib.hid hg
    have HB := Lib.hid hB
    clear hB hA hg
    go_enter Tryz.func11, Tryz.ntmps11
    go_wp2_with fail
    refine (iIntervals_any _ _ _ _ hx1 hcap).mono ?_
    rintro e w1 ⟨a1, c1, rfl, ho1, hb⟩
    rw [HB.out, H3.out]
    rw [H3.out, H4.out] at ho1
    have R2 := R1.below hb
    have bw2 := bw1.trans (hb.mono bw1.size)
    have hr1 := ho1.rd (by omega)
    clear hb ho1
    go_wp2_with fail
    refine (iOrderOfIv_any _ _ _ _ _ hr1 HCL.out (by omega)).mono ?_
    rintro e w3 ⟨a3, c3, rfl, ho3, hb3⟩
    rw [H5.out, H6.out, HG.out, ivo_len]
    rw [H6.out, ivo_len] at ho3
    have R4 := R2.below hb3
    have bw4 := bw2.trans (hb3.mono bw2.size)
    have ⟨⟨zR, cR, dR⟩, fR, gR⟩ := R4
    have hz2 : w.heap.size < w1.heap.size := R2.1.1
    clear hb3
    go_wp2_with fail
    have R5 := R4.set (.int .i64 (xs.length : Int)) (.slice a3 xs.length c3)
    refine bodyPost_ret (v := .tuple #[.agg #[.int .i64 (xs.length : Int), .slice a3 xs.length c3], .bool true]) (by have ⟨⟨_, q1, q2⟩, _, _⟩ := R5; simp [results, Tryz.results11, go_sem, q1, q2]) rfl ?_
    refine ⟨a3, c3, by rw [H1.out, H2.out, ivo_len], ?_, ?_⟩
    · rw [H2.out, ivo_len]
      exact ((ho3.setBelow (p := ⟨w.heap.size, 0, none⟩) hz2 _).setBelow (p := ⟨w.heap.size, 1, none⟩) hz2 _).mono (by omega)
    · exact (bw4.setCell (p := ⟨w.heap.size, 0, none⟩) (Nat.le_refl _) _).setCell (p := ⟨w.heap.size, 1, none⟩) (Nat.le_refl _) _

theorem l1Least_any (x y : Int) (w : World) :
    Calls Tryz.prog 99 #[.int .i64 x, .int .i64 y] w fun e w' => e = .returned (.int .i64 (min x y)) ∧ w = w' := by
  by_cases h : x < y
  · have H : Hid (min x y = x) := by rw [Hid]; omega
    go_enter Tryz.func99, Tryz.ntmps99
    go_wp2
    go_ret
    exact ⟨ret_int H.out.symm, rfl⟩
  · have H : Hid (min x y = y) := by rw [Hid]; omega
    go_enter Tryz.func99, Tryz.ntmps99
    go_wp2
    go_ret
    exact ⟨ret_int H.out.symm, rfl⟩

theorem ownV_lit (w : World) (B : Nat) (hB : B ≤ w.heap.size) : OwnV (w.alloc (.cells #[] 65)) B (.slice (some ⟨w.heap.size, 0, none⟩) 0 0) 0 [] := World.ownsRow_lit w #[] 0 hB (by simp [maxLen]) (by simp)
/-- a whole row of pairs at the end of a row that is owned -/
theorem append_rdV {w : World} {ops : Array Oper} {rest : List Oper} {o : Oper} {a : Act} {Q : Exit → Act → World → Prop} (hgd : o.guard = none) (s x : Operand)
    (ho : o.op = .call { callee := .builtin .append, args := #[s, x], argTypes := #[26, 26] })
    (base : Nat) (v : Value) (m : Nat) (zs : List Int) (hs : a.eval s = v) (hown : OwnV w base v m zs) (ad : Option Addr) (xs : List Int) (n cap : Nat) (hx : a.eval x = .slice ad n cap) (hr : Rd w ad xs) (hl : xs.length = n * 2)
    (hsm : m + n ≤ 1000) (hbase : base ≤ w.heap.size)
    (h : ∀ v' w', OwnV w' base v' (m + n) (zs ++ xs) → w.grownBy w' v.ownBlock → wpList Tryz.prog ops Q rest (a.put o.dst v') w') : wpList Tryz.prog ops Q (o :: rest) a w := by
  obtain ⟨i0, hi, hz0, hz1, hz2⟩ := info_parts infoIv
  cases ad with
  | none =>
    have h0 : xs = [] := by
      rcases xs with _ | ⟨y, t⟩
      · rfl
      · obtain ⟨b, off, e, _⟩ := hr.cell 0 (by simp)
        cases e
    subst h0
    obtain rfl : n = 0 := by simp at hl; omega
    exact wpList_append_none hgd s x 26 ho base 65 i0 2 Tryz.underlying26 hi v m cap (zs.map (Value.int .i64)) hs hown hx (h v w (by rw [List.append_nil]; exact hown) (World.grownBy.refl _ _))
  | some ad =>
    refine wpList_append_own _ hgd s x 26 ho base 65 i0 (.agg #[.int .i64 0, .int .i64 0]) 2 16 Tryz.underlying26 hi hz0 hz1 hz2 rfl (by decide) v m (zs.map (Value.int .i64)) hs hown ad n cap (xs.map (Value.int .i64)) hx (by simp [hl]) (rd_news hr) (ints_one xs) (by unfold maxLen; omega) (by omega) hbase ?_
    intro v' w' h1 h2 _
    refine h v' w' ?_ h2
    unfold OwnV
    rw [List.map_append]
    exact h1

set_option maxRecDepth 100000 in
set_option maxHeartbeats 4000000 in
theorem asGrow_any (a : Option Addr) (cs : List Int) (n cap : Nat) (m k : Int) (w : World) (hx : Rd w a cs) (hl : cs.length = n * 2) (hn : n ≤ 20) (hm : 0 ≤ m ∧ m ≤ 20) (hk : 0 ≤ k ∧ k ≤ 20) (hb : ∀ j, j < n → 0 ≤ lft cs j ∧ lft cs j ≤ 20 ∧ 0 ≤ rgt cs j ∧ rgt cs j ≤ 20) (hnk : 0 < n → 0 < k) :
    Calls Tryz.prog 71 #[.slice a n cap, .int .i64 m, .int .i64 k] w fun e w' => ∃ a' cap', e = .returned (.tuple #[.slice a' (n+1) cap', .int .i64 (agK cs n m k)]) ∧ OwnV w' w.heap.size (.slice a' (n+1) cap') (n+1) (agL cs n m k) ∧ Below w.heap.size w w' := by
  obtain ⟨i0, hi, hz0, hz1, hz2⟩ := info_parts infoIv
  have HL := Lib.hid hl
  have HB := Lib.hid hb
  have HD : Hid (∀ j, dTo cs k j ≤ k) := fun j => (dTo_le (cs := cs) (k := k) (n := j)).1
  clear hl hb
  go_enter Tryz.func71, Tryz.ntmps71
  go_wp2_with fail
  go_loopw [8, 18] (fun d i wr => ∃ j : Nat, j ≤ n ∧ i = .int .i64 j ∧ d = .int .i64 (dTo cs k j) ∧ Below w.heap.size w wr) (fun _ i _ => n - (intOf i).toNat)
  case atStart => exact ⟨0, Nat.zero_le _, rfl, rfl, Below.refl _ _⟩
  case round =>
    obtain ⟨j, hj, rfl, rfl, hb⟩ := hrel
    have hbs := hb.size
    have hd := HD.out j
    by_cases hlt : j < n
    · obtain ⟨b, off, rfl, hbl, hc1, hc2⟩ := (hx.below hb).pair HL.out hlt
      by_cases hr : rgt cs j = k - 1
      · have HN : Hid (dTo cs k (j+1) = min (dTo cs k j) (lft cs j)) := by rw [Hid, dTo, if_pos hr]
        have hq : (rgt cs j == k - 1) = true := by simp [hr]
        have HR := Lib.hid hr
        clear hr
        go_wp2_with fail
        refine (l1Least_any _ _ _).mono ?_
        rintro e w2 ⟨rfl, rfl⟩
        go_wp2_with fail
        go_roundw
        case rel => exact ⟨j + 1, by omega, by go_num, by rw [HN.out], hb.alloc hbs _⟩
        case measure => simp [intOf]; omega
      · have HN : Hid (dTo cs k (j+1) = dTo cs k j) := by rw [Hid, dTo, if_neg hr]
        have hq : (rgt cs j == k - 1) = false := by simp [hr]
        clear hr
        go_wp2_with fail
        go_roundw
        case rel => exact ⟨j + 1, by omega, by go_num, by rw [HN.out], hb.alloc hbs _⟩
        case measure => simp [intOf]; omega
    · obtain rfl : j = n := by omega
      cases hob : opnB cs j m k
      · have h2 := of_decide_eq_false hob
        have ⟨g1, g2⟩ : m ≤ dTo cs k j ∧ 0 < k := Classical.byContradiction fun h => h2 h
        have HL1 : Hid (agL cs j m k = cs ++ [m, k - 1]) := by simp [Hid, agL, hob]
        have HK1 : Hid (agK cs j m k = k) := by simp [Hid, agK, hob]
        have ownL := ownV_lit wr w.heap.size hbs
        have bl : Below w.heap.size w (wr.alloc (.cells #[] 65)) := hb.alloc hbs _
        have hxl := (hx.below hb).alloc (.cells #[] 65)
        clear hob h2
        go_wp2_with (first | (at_builtin; have _t := ownL; refine append_rdV rfl _ _ rfl w.heap.size _ 0 [] rfl ownL _ cs j cap rfl hxl HL.out (by omega) bl.size ?_; intro v4 w4 o4 hg4; have b4 := bl.trans (below_of_grown hg4 (fun c e => by have := (ownL.lt c e).1; omega) bl.size); rw [Nat.zero_add, List.nil_append] at o4; clear ownL) | (at_builtin; have _t := o4; refine push_iv rfl _ _ rfl rfl rfl o4 rfl (by omega) b4.size ?_; intro v5 w5 o5 hg5 hat5))
        have b5 := b4.trans (below_of_grown hg5 (fun c e => (o4.lt c e).1) b4.size)
        obtain ⟨a5, c5, rfl⟩ := o5.form
        refine bodyPost_ret (v := .tuple #[.slice a5 (j + 1) c5, .int .i64 k]) (by simp [results, Tryz.results71, go_sem]) rfl ?_
        exact ⟨a5, c5, by rw [HK1.out], by rw [HL1.out]; exact o5, b5⟩
      · have HL1 : Hid (agL cs j m k = opnV cs m k j ++ [m, k]) := by simp [Hid, agL, hob]
        have HK1 : Hid (agK cs j m k = k + 1) := by simp [Hid, agK, hob]
        have h2 : ¬ (m ≤ dTo cs k j ∧ 0 < k) := of_decide_eq_true hob
        have hor : ¬ m ≤ dTo cs k j ∨ (m ≤ dTo cs k j ∧ ¬ 0 < k) := by
          by_cases h : m ≤ dTo cs k j
          · exact .inr ⟨h, fun h3 => h2 ⟨h, h3⟩⟩
          · exact .inl h
        clear hob h2
        rcases hor with g1 | ⟨g1, g2⟩
        · go_wp2_with fail
          go_loopw [11, 51] (fun v i wr => ∃ q : Nat, q ≤ j ∧ i = .int .i64 q ∧ OwnV wr w.heap.size v q (opnV cs m k q) ∧ Below w.heap.size w wr) (fun _ i _ => j - (intOf i).toNat)
          case atStart => exact ⟨0, Nat.zero_le _, rfl, OwnV.nil _ _, hb⟩
          case round =>
            clear hb hbs
            obtain ⟨q, hq, rfl, hown, hb⟩ := hrel
            have hbs := hb.size
            obtain ⟨av, cv, rfl⟩ := hown.form
            by_cases hlt2 : q < j
            · obtain ⟨b, off, ea, hbl, hc1, hc2⟩ := (hx.below hb).pair HL.out hlt2
              subst ea
              have ⟨l0, l1, r0, r1⟩ := HB.out q hlt2
              have HS : Hid (opnV cs m k (q+1) = opnV cs m k q ++ [opnL (lft cs q) m, opnR (lft cs q) (rgt cs q) m k]) := prs_succ _ _ _
              generalize hgl : lft cs q = L at *
              generalize hgr : rgt cs q = R at *
              clear hgl hgr
              by_cases hr : m ≤ R
              · by_cases he : R = k - 1
                · have hq1 : (R == k - 1) = true := by simp [he]
                  by_cases hl : L < m
                  · have hl2 : ¬ m ≤ L := by omega
                    have HLn : Hid (opnL L m = L) := by rw [Hid, opnL]; split <;> omega
                    have HRn : Hid (opnR L R m k = m) := by rw [Hid, opnR]; (repeat split) <;> omega
                    clear he
                    have own2 := ((hown.alloc (.cells #[.int .i64 L, .int .i64 R] 65)).alloc (.cells #[.int .i64 (L), .int .i64 (m)] 65))
                    have b2 := (hb.alloc hbs (.cells #[.int .i64 L, .int .i64 R] 65)).alloc (by simp; omega) (.cells #[.int .i64 (L), .int .i64 (m)] 65)
                    clear hown
                    go_wp2_with (at_builtin; refine push_iv rfl _ _ rfl rfl rfl own2 (by simp) (by omega) (by simp; omega) ?_; intro v5 w5 o5 hg5 hat5)
                    go_roundw
                    case rel => exact ⟨q + 1, by omega, by go_num, by rw [HS.out, HLn.out, HRn.out]; exact o5, b2.trans (below_of_grown hg5 (fun c e => (own2.lt c e).1) (by simp; omega))⟩
                    case measure => simp [intOf]; omega
                  · have hl2 : m ≤ L := by omega
                    have HLn : Hid (opnL L m = L + 1) := by rw [Hid, opnL]; split <;> omega
                    have HRn : Hid (opnR L R m k = R + 1) := by rw [Hid, opnR]; (repeat split) <;> omega
                    clear he
                    have own2 := ((hown.alloc (.cells #[.int .i64 L, .int .i64 R] 65)).alloc (.cells #[.int .i64 (L + 1), .int .i64 (R + 1)] 65))
                    have b2 := (hb.alloc hbs (.cells #[.int .i64 L, .int .i64 R] 65)).alloc (by simp; omega) (.cells #[.int .i64 (L + 1), .int .i64 (R + 1)] 65)
                    clear hown
                    go_wp2_with (at_builtin; refine push_iv rfl _ _ rfl rfl rfl own2 (by simp) (by omega) (by simp; omega) ?_; intro v5 w5 o5 hg5 hat5)
                    go_roundw
                    case rel => exact ⟨q + 1, by omega, by go_num, by rw [HS.out, HLn.out, HRn.out]; exact o5, b2.trans (below_of_grown hg5 (fun c e => (own2.lt c e).1) (by simp; omega))⟩
                    case measure => simp [intOf]; omega
                · have hq1 : (R == k - 1) = false := by simp [he]
                  by_cases hl : L < m
                  · have hl2 : ¬ m ≤ L := by omega
                    have HLn : Hid (opnL L m = L) := by rw [Hid, opnL]; split <;> omega
                    have HRn : Hid (opnR L R m k = R + 1) := by rw [Hid, opnR]; (repeat split) <;> omega
                    clear he
                    have own2 := ((hown.alloc (.cells #[.int .i64 L, .int .i64 R] 65)).alloc (.cells #[.int .i64 (L), .int .i64 (R + 1)] 65))
                    have b2 := (hb.alloc hbs (.cells #[.int .i64 L, .int .i64 R] 65)).alloc (by simp; omega) (.cells #[.int .i64 (L), .int .i64 (R + 1)] 65)
                    clear hown
                    go_wp2_with (at_builtin; refine push_iv rfl _ _ rfl rfl rfl own2 (by simp) (by omega) (by simp; omega) ?_; intro v5 w5 o5 hg5 hat5)
                    go_roundw
                    case rel => exact ⟨q + 1, by omega, by go_num, by rw [HS.out, HLn.out, HRn.out]; exact o5, b2.trans (below_of_grown hg5 (fun c e => (own2.lt c e).1) (by simp; omega))⟩
                    case measure => simp [intOf]; omega
                  · have hl2 : m ≤ L := by omega
                    have HLn : Hid (opnL L m = L + 1) := by rw [Hid, opnL]; split <;> omega
                    have HRn : Hid (opnR L R m k = R + 1) := by rw [Hid, opnR]; (repeat split) <;> omega
                    clear he
                    have own2 := ((hown.alloc (.cells #[.int .i64 L, .int .i64 R] 65)).alloc (.cells #[.int .i64 (L + 1), .int .i64 (R + 1)] 65))
                    have b2 := (hb.alloc hbs (.cells #[.int .i64 L, .int .i64 R] 65)).alloc (by simp; omega) (.cells #[.int .i64 (L + 1), .int .i64 (R + 1)] 65)
                    clear hown
                    go_wp2_with (at_builtin; refine push_iv rfl _ _ rfl rfl rfl own2 (by simp) (by omega) (by simp; omega) ?_; intro v5 w5 o5 hg5 hat5)
                    go_roundw
                    case rel => exact ⟨q + 1, by omega, by go_num, by rw [HS.out, HLn.out, HRn.out]; exact o5, b2.trans (below_of_grown hg5 (fun c e => (own2.lt c e).1) (by simp; omega))⟩
                    case measure => simp [intOf]; omega
              · by_cases hl : L < m
                · have hl2 : ¬ m ≤ L := by omega
                  have HLn : Hid (opnL L m = L) := by rw [Hid, opnL]; split <;> omega
                  have HRn : Hid (opnR L R m k = R) := by rw [Hid, opnR]; (repeat split) <;> omega
                  have own2 := ((hown.alloc (.cells #[.int .i64 L, .int .i64 R] 65)).alloc (.cells #[.int .i64 (L), .int .i64 (R)] 65))
                  have b2 := (hb.alloc hbs (.cells #[.int .i64 L, .int .i64 R] 65)).alloc (by simp; omega) (.cells #[.int .i64 (L), .int .i64 (R)] 65)
                  clear hown
                  go_wp2_with (at_builtin; refine push_iv rfl _ _ rfl rfl rfl own2 (by simp) (by omega) (by simp; omega) ?_; intro v5 w5 o5 hg5 hat5)
                  go_roundw
                  case rel => exact ⟨q + 1, by omega, by go_num, by rw [HS.out, HLn.out, HRn.out]; exact o5, b2.trans (below_of_grown hg5 (fun c e => (own2.lt c e).1) (by simp; omega))⟩
                  case measure => simp [intOf]; omega
                · have hl2 : m ≤ L := by omega
                  have HLn : Hid (opnL L m = L + 1) := by rw [Hid, opnL]; split <;> omega
                  have HRn : Hid (opnR L R m k = R) := by rw [Hid, opnR]; (repeat split) <;> omega
                  have own2 := ((hown.alloc (.cells #[.int .i64 L, .int .i64 R] 65)).alloc (.cells #[.int .i64 (L + 1), .int .i64 (R)] 65))
                  have b2 := (hb.alloc hbs (.cells #[.int .i64 L, .int .i64 R] 65)).alloc (by simp; omega) (.cells #[.int .i64 (L + 1), .int .i64 (R)] 65)
                  clear hown
                  go_wp2_with (at_builtin; refine push_iv rfl _ _ rfl rfl rfl own2 (by simp) (by omega) (by simp; omega) ?_; intro v5 w5 o5 hg5 hat5)
                  go_roundw
                  case rel => exact ⟨q + 1, by omega, by go_num, by rw [HS.out, HLn.out, HRn.out]; exact o5, b2.trans (below_of_grown hg5 (fun c e => (own2.lt c e).1) (by simp; omega))⟩
                  case measure => simp [intOf]; omega
            · obtain rfl : q = j := by omega
              go_wp2_with (at_builtin; refine push_iv rfl _ _ rfl rfl rfl hown rfl (by omega) hbs ?_; intro v5 w5 o5 hg5 hat5)
              have b5 := hb.trans (below_of_grown hg5 (fun c e => (hown.lt c e).1) hbs)
              obtain ⟨a5, c5, rfl⟩ := o5.form
              refine bodyPost_ret (v := .tuple #[.slice a5 (q + 1) c5, .int .i64 (k + 1)]) (by simp [results, Tryz.results71, go_sem]) rfl ?_
              exact ⟨a5, c5, by rw [HK1.out], by rw [HL1.out]; exact o5, b5⟩
        · have hj0 : j = 0 := by
            apply Classical.byContradiction
            intro h
            exact g2 (hnk (by omega))
          subst hj0
          have HZ : Hid (opnV cs m k 0 = []) := rfl
          go_wp2_with fail
          go_loopw [11, 51] (fun v i wr => i = .int .i64 0 ∧ v = .slice none 0 0 ∧ Below w.heap.size w wr) (fun _ _ _ => 0)
          case atStart => exact ⟨rfl, rfl, hb⟩
          case round =>
            clear hb hbs
            obtain ⟨rfl, rfl, hb⟩ := hrel
            have hbs := hb.size
            go_wp2_with (at_builtin; refine push_iv rfl _ _ rfl rfl rfl (OwnV.nil wr w.heap.size) rfl (by omega) hbs ?_; intro v5 w5 o5 hg5 hat5)
            have b5 := hb.trans (below_of_grown hg5 (fun c e => by cases e) hbs)
            obtain ⟨a5, c5, rfl⟩ := o5.form
            refine bodyPost_ret (v := .tuple #[.slice a5 (0 + 1) c5, .int .i64 (k + 1)]) (by simp [results, Tryz.results71, go_sem]) rfl ?_
            exact ⟨a5, c5, by rw [HK1.out], by rw [HL1.out, HZ.out]; exact o5, b5⟩

theorem asIntervals_any (a : Option Addr) (xs : List Int) (cap : Nat) (w : World) (hx : Rd w a xs) (h : ascB xs = true) (h10 : xs.length ≤ 10) :
    Calls Tryz.prog 37 #[.slice a xs.length cap] w fun e w' => ∃ a' cap', e = .returned (.slice a' xs.length cap') ∧ OwnV w' w.heap.size (.slice a' xs.length cap') xs.length (agC xs xs.length).1 ∧ Below w.heap.size w w' := by
  have HA := Lib.hid h
  clear h
  go_enter Tryz.func37, Tryz.ntmps37
  go_wp2_with fail
  go_loopw [3, 4, 9] (fun v k i wr => ∃ j : Nat, j ≤ xs.length ∧ i = .int .i64 j ∧ k = .int .i64 (agC xs j).2 ∧ OwnV wr w.heap.size v j (agC xs j).1 ∧ Below w.heap.size w wr) (fun _ _ i _ => xs.length - (intOf i).toNat)
  case atStart => exact ⟨0, Nat.zero_le _, rfl, rfl, OwnV.nil _ _, Below.refl _ _⟩
  case round =>
    obtain ⟨j, hj, rfl, rfl, hown, hb⟩ := hrel
    have hbs := hb.size
    obtain ⟨av, cv, rfl⟩ := hown.form
    by_cases hlt : j < xs.length
    · have ⟨b1, b2, b3, b4⟩ := ag_bd HA.out hlt h10
      obtain ⟨b, off, rfl, hbl, hc⟩ := (hx.below hb).cell j hlt
      have HN1 : Hid ((agC xs (j+1)).1 = agL (agC xs j).1 j (nth xs j) (agC xs j).2) := rfl
      have HN2 : Hid ((agC xs (j+1)).2 = agK (agC xs j).1 j (nth xs j) (agC xs j).2) := rfl
      have HCL := Lib.hid (agC_len xs j)
      have hr := hown.rd (by omega)
      have HB3 := Lib.hid b3
      have HB4 := Lib.hid b4
      clear hown b3 b4
      go_wp2_with fail
      refine (asGrow_any _ (agC xs j).1 j _ _ _ _ hr HCL.out (by omega) b1 b2 HB3.out HB4.out).mono ?_
      rintro e w2 ⟨a2, c2, rfl, ho2, hb2⟩
      go_wp2_with fail
      go_roundw
      case rel => exact ⟨j + 1, by omega, by go_num, by rw [HN2.out], by rw [HN1.out]; exact ho2.mono hbs, hb.trans (hb2.mono hbs)⟩
      case measure => simp [intOf]; omega
    · obtain rfl : j = xs.length := by omega
      go_wp2_with fail
      go_ret
      exact ⟨av, cv, rfl, hown, hb⟩

theorem ivOrder_any (a : Option Addr) (cs : List Int) (n cap : Nat) (w : World) (hx : Rd w a cs) (hl : cs.length = n * 2) (hn : n ≤ 10) :
    Calls Tryz.prog 39 #[.slice a n cap] w fun e w' => ∃ a' cap', e = .returned (.agg #[.int .i64 n, .slice a' n cap']) ∧ OwnI w' w.heap.size (.slice a' n cap') (ivo cs n n) ∧ Below w.heap.size w w' := by
  obtain ⟨i0, hi, hz0, hz1, hz2⟩ := info_parts infoInt
  have HL := Lib.hid hl
  clear hl
  go_enter Tryz.func39, Tryz.ntmps39
  go_wp2_with fail
  go_loopw [14] (fun i wr => ∃ (k : Nat) (v : Value), k ≤ n ∧ i = .int .i64 k ∧ OwnI wr (w.heap.size + 2) v (ivo cs n k) ∧ Below w.heap.size w wr ∧ Var2 wr w.heap.size (.int .i64 0) (.slice none 0 0) ∧ Var2 wr (w.heap.size + 1) (.int .i64 n) v) (fun i _ => n - (intOf i).toNat)
  case atStart => exact ⟨0, .slice none 0 0, Nat.zero_le _, rfl, OwnI.nil _ _, (by repeat (first | exact Below.refl _ _ | assumption | refine Below.alloc ?_ (by first | exact Nat.le_refl _ | (simp only [World.size_alloc, World.size_setCell, World.size_drew]; omega) | omega) _ | refine Below.setCell ?_ (by first | exact Nat.le_refl _ | (simp only [World.size_alloc, World.size_setCell, World.size_drew]; omega) | omega) _ | refine Below.drew ?_)), (Var2.new w _ _ _).alloc _, by simpa using Var2.new (w.alloc (.cells #[.int .i64 0, .slice none 0 0] 31)) (.int .i64 n) (.slice none 0 0) 31⟩
  case round =>
    obtain ⟨k, v, hk, rfl, hown, hb, hR, hV⟩ := hrel
    obtain ⟨av, cv, rfl⟩ := hown.form
    rw [ivo_len] at hown hV
    obtain ⟨wo, rfl⟩ : ∃ wo : World, wo = wr := ⟨_, rfl⟩
    have hzr := hb.size
    by_cases hlt : k < n
    · obtain ⟨b, off, rfl, hbl, hc1, hc2⟩ := (hx.below hb).pair HL.out hlt
      go_wp2_with fail
      go_loopw [6, 20] (fun s i wr => ∃ j : Nat, j ≤ n ∧ i = .int .i64 j ∧ s = .int .i64 (befTo cs (rgt cs k) j) ∧ Below wo.heap.size wo wr ∧ Box2 wr wo.heap.size (.int .i64 (lft cs k)) (.int .i64 (rgt cs k))) (fun _ i _ => n - (intOf i).toNat)
      case atStart => exact ⟨0, Nat.zero_le _, rfl, rfl, (by repeat (first | exact Below.refl _ _ | assumption | refine Below.alloc ?_ (by first | exact Nat.le_refl _ | (simp only [World.size_alloc, World.size_setCell, World.size_drew]; omega) | omega) _ | refine Below.setCell ?_ (by first | exact Nat.le_refl _ | (simp only [World.size_alloc, World.size_setCell, World.size_drew]; omega) | omega) _ | refine Below.drew ?_)), Box2.new wo _ _ _⟩
      case round =>
        obtain ⟨j, hj, rfl, rfl, hbj, hBj⟩ := hrel
        have ⟨zB, cB, dB⟩ := hBj
        have hzj := hbj.size
        by_cases hjl : j < n
        · obtain ⟨b2, off2, e2, hbl2, hd1, hd2⟩ := (hx.below (hb.trans (hbj.mono hb.size))).pair HL.out hjl
          simp only [Option.some.injEq, Addr.mk.injEq, and_true] at e2
          obtain ⟨rfl, rfl⟩ := e2
          have hbs := befTo_small cs (rgt cs k) (k := j) (by omega)
          have hor := Lib.hid (or_bit (b := befTo cs (rgt cs k) j) (k := j) (by omega) (by omega))
          clear hbs
          by_cases hlt2 : rgt cs k < lft cs j
          · have HS : Hid (befTo cs (rgt cs k) (j+1) = befTo cs (rgt cs k) j ||| 2 ^ j) := by rw [Hid, befTo, if_pos hlt2]
            go_wp2_with fail
            go_roundw
            case rel => exact ⟨j + 1, by omega, by go_num, val_int (by rw [hor.out, HS.out]), (by repeat (first | exact Below.refl _ _ | assumption | refine Below.alloc ?_ (by first | exact Nat.le_refl _ | (simp only [World.size_alloc, World.size_setCell, World.size_drew]; omega) | omega) _ | refine Below.setCell ?_ (by first | exact Nat.le_refl _ | (simp only [World.size_alloc, World.size_setCell, World.size_drew]; omega) | omega) _ | refine Below.drew ?_)), hBj.below (by repeat (first | exact Below.refl _ _ | assumption | refine Below.alloc ?_ (by first | exact Nat.le_refl _ | (simp only [World.size_alloc, World.size_setCell, World.size_drew]; omega) | omega) _ | refine Below.setCell ?_ (by first | exact Nat.le_refl _ | (simp only [World.size_alloc, World.size_setCell, World.size_drew]; omega) | omega) _ | refine Below.drew ?_))⟩
            case measure => simp [intOf]; omega
          · have HS : Hid (befTo cs (rgt cs k) (j+1) = befTo cs (rgt cs k) j) := by rw [Hid, befTo, if_neg hlt2]
            go_wp2_with fail
            go_roundw
            case rel => exact ⟨j + 1, by omega, by go_num, val_int (by rw [HS.out]), (by repeat (first | exact Below.refl _ _ | assumption | refine Below.alloc ?_ (by first | exact Nat.le_refl _ | (simp only [World.size_alloc, World.size_setCell, World.size_drew]; omega) | omega) _ | refine Below.setCell ?_ (by first | exact Nat.le_refl _ | (simp only [World.size_alloc, World.size_setCell, World.size_drew]; omega) | omega) _ | refine Below.drew ?_)), hBj.below (by repeat (first | exact Below.refl _ _ | assumption | refine Below.alloc ?_ (by first | exact Nat.le_refl _ | (simp only [World.size_alloc, World.size_setCell, World.size_drew]; omega) | omega) _ | refine Below.setCell ?_ (by first | exact Nat.le_refl _ | (simp only [World.size_alloc, World.size_setCell, World.size_drew]; omega) | omega) _ | refine Below.drew ?_))⟩
            case measure => simp [intOf]; omega
        · obtain rfl : j = n := by omega
          have o2 := hown.below hbj (Nat.le_refl _)
          have R2 := hR.below hbj
          have V2 := hV.below hbj
          have ⟨⟨zV, cV, dV⟩, fV, gV⟩ := V2
          have bwj := hb.trans (hbj.mono hb.size)
          have HE : Hid (((befTo cs (rgt cs k) j : Nat) : Int) = ivE cs j k) := rfl
          rw [HE.out]
          clear hc1 hc2
          go_wp2_with (at_builtin; refine wpList_append_own _ rfl _ _ 24 rfl (w.heap.size + 2) 3 i0 (.int .i64 0) 1 8 Tryz.underlying24 hi hz0 hz1 hz2 rfl (by decide) (.slice av k cv) k ((ivo cs j k).map (Value.int .i64)) rfl (by have h := o2.alloc (.cells #[.int .i64 (ivE cs j k)] 3); unfold OwnI at h; rw [ivo_len] at h; exact h) ⟨wr.heap.size, 0, none⟩ 1 1 [.int .i64 (ivE cs j k)] rfl rfl (cell_one_new _ _ _) (by intro u hu; simp at hu; subst hu; rfl) (by unfold maxLen; omega) (by omega) (by simp; omega) ?_)
          intro v' w6 hown6 hgrow _
          have hg2 := grown_alloc_set hgrow
          have o6 : OwnI w6 (w.heap.size + 2) v' (ivo cs j (k + 1)) := by
            unfold OwnI
            rw [ivo_len, ivo, fmap_succ, List.map_append]
            exact hown6
          obtain ⟨a6, c6, rfl⟩ := o6.form
          rw [ivo_len] at o6 ⊢
          have hU := o2.lt
          have R6 := R2.kept hg2 (ne_own (fun c e => by have := hU c e; omega))
          have V6 := V2.kept hg2 (ne_own (fun c e => by have := hU c e; omega))
          have bw6 := bwj.trans (below_of_grown hg2 (fun c e => by have := hU c e; omega) bwj.size)
          have ⟨⟨zV6, cV6, dV6⟩, fV6, gV6⟩ := V6
          clear hown6 hgrow hU cV dV fV gV
          go_wp2_with fail
          go_roundw
          case rel => exact ⟨k + 1, _, by omega, by go_num, o6.setBelow (p := ⟨w.heap.size + 1, 1, none⟩) (show w.heap.size + 1 < w.heap.size + 2 by omega) _, bw6.setCell (p := ⟨w.heap.size + 1, 1, none⟩) (show w.heap.size ≤ w.heap.size + 1 by omega) _, R6.other (p := ⟨w.heap.size + 1, 1, none⟩) _ (show w.heap.size ≠ w.heap.size + 1 by omega), V6.set1 _⟩
          case measure => simp [intOf]; omega
    · obtain rfl : k = n := by omega
      have ⟨⟨zR, cR, dR⟩, fR, gR⟩ := hR
      have ⟨⟨zV, cV, dV⟩, fV, gV⟩ := hV
      go_wp2_with fail
      have R3 := hR.set (.int .i64 (k : Int)) (.slice av k cv)
      refine bodyPost_ret (v := .agg #[.int .i64 (k : Int), .slice av k cv]) (by have ⟨⟨_, q1, q2⟩, _, _⟩ := R3; simp [results, Tryz.results39, go_sem, q1, q2]) rfl ?_
      refine ⟨av, cv, rfl, ?_, ?_⟩
      · exact ((hown.setBelow (by simp) _).setBelow (by simp) _).mono (by omega)
      · exact (hb.setCell (by simp) _).setCell (by simp) _

theorem l1In_any (n lo hi : Int) (w : World) :
    Calls Tryz.prog 70 #[.int .i64 n, .int .i64 lo, .int .i64 hi] w fun e w' => e = .returned (.bool (inB n lo hi)) ∧ w = w' := by
  go_enter Tryz.func70, Tryz.ntmps70
  go_wp2
  all_goals (go_ret; exact ⟨ret_bool (by simp [inB]; try omega), rfl⟩)
theorem l1In_is {n lo hi : Int} {b : Bool} (h : inB n lo hi = b) (w : World) (m : Nat) :
    Calls Tryz.prog 70 #[.int .i64 n, .int .i64 lo, .int .i64 hi] (w.drewN m) fun e w' => e = .returned (.bool b) ∧ ∃ k, w' = w.drewN k :=
  Calls.quiet_of_same ((l1In_any n lo hi (w.drewN m)).mono (fun e w' hh => ⟨by rw [← h]; exact hh.1, hh.2.symm⟩))

theorem asGood_any (a : Option Addr) (xs : List Int) (cap : Nat) (w : World) (hx : Rd w a xs) (hcap : xs.length ≤ cap) :
    Calls Tryz.prog 36 #[.slice a xs.length cap] w fun e w' => e = .returned (.bool (ascB xs)) ∧ Below w.heap.size w w' := by
  have hlen := hx.len
  by_cases hl : xs.length ≤ 12
  · go_enter Tryz.func36, Tryz.ntmps36
    go_wp2_with fail
    go_loopw [10] (fun i wr => ∃ k : Nat, k ≤ xs.length ∧ i = .int .i64 k ∧ (∀ j, j < k → ascOk xs j = true) ∧ Below w.heap.size w wr) (fun i _ => xs.length - (intOf i).toNat)
    case atStart => exact ⟨0, Nat.zero_le _, rfl, fun j hj => by omega, Below.refl _ _⟩
    case round =>
      obtain ⟨k, hk, rfl, hall, hb⟩ := hrel
      have HA := Lib.hid hall
      clear hall
      by_cases hlt : k < xs.length
      · have hxr := hx.below hb
        obtain ⟨b, off, rfl, hbl, hc⟩ := hxr.cell k hlt
        have k1 : (k : Int) ≤ (cap : Int) := by omega
        have k0 : (0 : Int) ≤ (k : Int) := by omega
        cases hin : ascOk xs k
        · have HO : Hid (ascB xs = false) := ascB_no hlt hin
          have hin' : inB (nth xs k) 0 (bndTo xs k) = false := hin
          have HI := Lib.hid hin'
          clear hin hin'
          go_wp2_with fail
          refine (asBound_any _ xs k _ _ hxr hk).mono ?_
          rintro e w1 ⟨rfl, hb1⟩
          go_wp2_with fail
          refine (l1In_any _ _ _ _).mono ?_
          rintro e w' ⟨rfl, rfl⟩
          rw [HI.out]
          go_wp2_with fail
          go_ret
          exact ⟨ret_bool HO.out.symm, hb.trans (hb1.mono hb.size)⟩
        · have hin' : inB (nth xs k) 0 (bndTo xs k) = true := hin
          have HI := Lib.hid hin'
          have HM := Lib.hid hin
          clear hin hin'
          go_wp2_with fail
          refine (asBound_any _ xs k _ _ hxr hk).mono ?_
          rintro e w1 ⟨rfl, hb1⟩
          go_wp2_with fail
          refine (l1In_any _ _ _ _).mono ?_
          rintro e w' ⟨rfl, rfl⟩
          rw [HI.out]
          go_wp2_with fail
          go_roundw
          case rel =>
            refine ⟨k + 1, by omega, by go_num, fun j hj => ?_, hb.trans (hb1.mono hb.size)⟩
            by_cases e : j = k
            · rw [e]; exact HM.out
            · exact HA.out j (by omega)
          case measure => simp [intOf]; omega
      · obtain rfl : k = xs.length := by omega
        have HO : Hid (ascB xs = true) := ascB_iff.2 ⟨hl, HA.out⟩
        go_wp2_with fail
        go_ret
        exact ⟨ret_bool HO.out.symm, hb⟩
  · have HO := Lib.hid (ascB_long hl)
    go_enter Tryz.func36, Tryz.ntmps36
    go_wp2_with fail
    go_ret
    exact ⟨ret_bool HO.out.symm, Below.refl _ _⟩

theorem sOrderAsc_any (a : Option Addr) (xs : List Int) (cap : Nat) (w : World) (hx : Rd w a xs) (hcap : xs.length ≤ cap) :
    Calls Tryz.prog 12 #[.slice a xs.length cap] w (GotO w (aoO xs) (aoL xs) (agB xs)) := by
  have hlen := hx.len
  have hx1 := hx.alloc (.cells #[.int .i64 0, .slice none 0 0] 31)
  have R1 : Var2 (w.alloc (.cells #[.int .i64 0, .slice none 0 0] 31)) w.heap.size (.int .i64 0) (.slice none 0 0) := Var2.new w _ _ _
  have bw1 : Below w.heap.size w (w.alloc (.cells #[.int .i64 0, .slice none 0 0] 31)) := (Below.refl _ _).alloc (Nat.le_refl _) _
  cases hB : agB xs
  · have H1 : Hid (aoO xs = 0) := by simp [Hid, aoO, hB]
    have H2 : Hid (aoL xs = []) := by simp [Hid, aoL, hB]
    have hor : ascB xs = false ∨ (ascB xs = true ∧ ¬ xs.length ≤ 10) := by
      cases h : ascB xs
      · exact .inl rfl
      · exact .inr ⟨rfl, fun h2 => by rw [agB_iff.2 ⟨h, h2⟩] at hB; cases hB⟩
    have HB := Lib.hid hB
    clear hB
    rcases hor with hA | ⟨hA, h10⟩
    all_goals
      have HA := Lib.hid hA
      clear hA
      go_enter Tryz.func12, Tryz.ntmps12
      go_wp2_with fail
      refine (asGood_any _ _ _ _ hx1 hcap).mono ?_
      rintro e w1 ⟨rfl, hb⟩
      rw [HA.out]
      have R2 := R1.below hb
      have bw2 := bw1.trans (hb.mono bw1.size)
      have ⟨⟨zR, cR, dR⟩, fR, gR⟩ := R2
      go_wp2_with fail
      have R3 := R2.set (.int .i64 0) (.slice none 0 0)
      refine bodyPost_ret (v := .tuple #[.agg #[.int .i64 0, .slice none 0 0], .bool false]) (by have ⟨⟨_, q1, q2⟩, _, _⟩ := R3; simp [results, Tryz.results12, go_sem, q1, q2]) rfl ?_
      exact got_no H1.out H2.out rfl ((bw2.setCell (p := ⟨w.heap.size, 0, none⟩) (Nat.le_refl _) _).setCell (p := ⟨w.heap.size, 1, none⟩) (Nat.le_refl _) _)
  · have ⟨hA, h10⟩ := agB_iff.1 hB
    have H1 : Hid (aoO xs = (xs.length : Int)) := by simp [Hid, aoO, hB]
    have H2 : Hid (aoL xs = ivo (agC xs xs.length).1 xs.length xs.length) := by simp [Hid, aoL, hB]
    have HCL := Lib.hid (agC_len xs xs.length)
    have HB := Lib.hid hB
    have HA := Lib.hid hA
    clear hB hA
    go_enter Tryz.func12, Tryz.ntmps12
    go_wp2_with fail
    refine (asGood_any _ _ _ _ hx1 hcap).mono ?_
    rintro e w1 ⟨rfl, hb⟩
    rw [HA.out]
    have R2 := R1.below hb
    have bw2 := bw1.trans (hb.mono bw1.size)
    clear hb
    go_wp2_with fail
    refine (asIntervals_any _ _ _ _ (hx.below bw2) HA.out h10).mono ?_
    rintro e w2 ⟨a2, c2, rfl, ho2, hb2⟩
    have R3 := R2.below hb2
    have bw3 := bw2.trans (hb2.mono bw2.size)
    have hr2 := ho2.rd (by omega)
    clear hb2 ho2
    go_wp2_with fail
    refine (ivOrder_any _ _ _ _ _ hr2 HCL.out h10).mono ?_
    rintro e w3 ⟨a3, c3, rfl, ho3, hb3⟩
    have R4 := R3.below hb3
    have bw4 := bw3.trans (hb3.mono bw3.size)
    have ⟨⟨zR, cR, dR⟩, fR, gR⟩ := R4
    have hz2 : w.heap.size < w2.heap.size := R3.1.1
    clear hb3
    go_wp2_with fail
    have R5 := R4.set (.int .i64 (xs.length : Int)) (.slice a3 xs.length c3)
    refine bodyPost_ret (v := .tuple #[.agg #[.int .i64 (xs.length : Int), .slice a3 xs.length c3], .bool true]) (by have ⟨⟨_, q1, q2⟩, _, _⟩ := R5; simp [results, Tryz.results12, go_sem, q1, q2]) rfl ?_
    refine ⟨a3, c3, by rw [H1.out, H2.out, ivo_len], ?_, ?_⟩
    · rw [H2.out, ivo_len]
      exact ((ho3.setBelow (p := ⟨w.heap.size, 0, none⟩) hz2 _).setBelow (p := ⟨w.heap.size, 1, none⟩) hz2 _).mono (by omega)
    · exact (bw4.setCell (p := ⟨w.heap.size, 0, none⟩) (Nat.le_refl _) _).setCell (p := ⟨w.heap.size, 1, none⟩) (Nat.le_refl _) _

def Sh_lays189_ren : Go.Shelf.Ren := ⟨fun | 189 => 76 | 125 => 104 | 257 => 103 | 128 => 129 | 129 => 130 | 294 => 120 | 295 => 121 | 296 => 122 | 297 => 123 | 298 => 124 | 299 => 125 | 216 => 126 | 300 => 127 | 301 => 128 | 328 => 141 | 329 => 142 | 330 => 143 | 331 => 144 | 332 => 145 | 215 => 146 | 343 => 150 | n => n, fun | 28 => 24 | 3 => 3 | 46 => 118 | 0 => 0 | 51 => 135 | 53 => 57 | 4 => 4 | 183 => 140 | 182 => 139 | 131 => 36 | 5 => 5 | 9 => 9 | 218 => 149 | 222 => 153 | 228 => 157 | 229 => 158 | n => n, fun | n => n⟩
theorem Sh_lays189 : Go.Proofs.Lays.n189 Tryz.prog Sh_lays189_ren := {
  mixed := by kernel_rfl
  f125 := Tryz.func104.trans (congrArg some (by kernel_rfl))
  f128 := Tryz.func129.trans (congrArg some (by kernel_rfl))
  f129 := Tryz.func130.trans (congrArg some (by kernel_rfl))
  f189 := Tryz.func76.trans (congrArg some (by kernel_rfl))
  f215 := Tryz.func146.trans (congrArg some (by kernel_rfl))
  f216 := Tryz.func126.trans (congrArg some (by kernel_rfl))
  f257 := Tryz.func103.trans (congrArg some (by kernel_rfl))
  f294 := Tryz.func120.trans (congrArg some (by kernel_rfl))
  f295 := Tryz.func121.trans (congrArg some (by kernel_rfl))
  f296 := Tryz.func122.trans (congrArg some (by kernel_rfl))
  f297 := Tryz.func123.trans (congrArg some (by kernel_rfl))
  f298 := Tryz.func124.trans (congrArg some (by kernel_rfl))
  f299 := Tryz.func125.trans (congrArg some (by kernel_rfl))
  f300 := Tryz.func127.trans (congrArg some (by kernel_rfl))
  f301 := Tryz.func128.trans (congrArg some (by kernel_rfl))
  f328 := Tryz.func141.trans (congrArg some (by kernel_rfl))
  f329 := Tryz.func142.trans (congrArg some (by kernel_rfl))
  f330 := Tryz.func143.trans (congrArg some (by kernel_rfl))
  f331 := Tryz.func144.trans (congrArg some (by kernel_rfl))
  f332 := Tryz.func145.trans (congrArg some (by kernel_rfl))
  f343 := Tryz.func150.trans (congrArg some (by kernel_rfl))
  t0 := Tryz.underlying0
  a0 := Tryz.isAgg0
  z0 := Tryz.sizeOf0
  v0 := Tryz.zeroValue0
  t3 := Tryz.underlying3
  a3 := Tryz.isAgg3
  z3 := Tryz.sizeOf3
  v3 := Tryz.zeroValue3
  t4 := Tryz.underlying4
  a4 := Tryz.isAgg4
  z4 := Tryz.sizeOf4
  v4 := Tryz.zeroValue4
  t5 := Tryz.underlying5
  a5 := Tryz.isAgg5
  z5 := Tryz.sizeOf5
  v5 := Tryz.zeroValue5
  t9 := Tryz.underlying9
  a9 := Tryz.isAgg9
  z9 := Tryz.sizeOf9
  v9 := Tryz.zeroValue9
  t28 := Tryz.underlying24
  a28 := Tryz.isAgg24
  z28 := Tryz.sizeOf24
  v28 := Tryz.zeroValue24
  t46 := Tryz.underlying118
  a46 := Tryz.isAgg118
  z46 := Tryz.sizeOf118
  v46 := Tryz.zeroValue118
  t51 := Tryz.underlying135
  a51 := Tryz.isAgg135
  z51 := Tryz.sizeOf135
  v51 := Tryz.zeroValue135
  t53 := Tryz.underlying57
  a53 := Tryz.isAgg57
  z53 := Tryz.sizeOf57
  v53 := Tryz.zeroValue57
  t131 := Tryz.underlying36
  a131 := Tryz.isAgg36
  z131 := Tryz.sizeOf36
  v131 := Tryz.zeroValue36
  t182 := Tryz.underlying139
  a182 := Tryz.isAgg139
  z182 := Tryz.sizeOf139
  v182 := Tryz.zeroValue139
  t183 := Tryz.underlying140
  a183 := Tryz.isAgg140
  z183 := Tryz.sizeOf140
  v183 := Tryz.zeroValue140
  t218 := Tryz.underlying149
  a218 := Tryz.isAgg149
  z218 := Tryz.sizeOf149
  v218 := Tryz.zeroValue149
  t222 := Tryz.underlying153
  a222 := Tryz.isAgg153
  z222 := Tryz.sizeOf153
  v222 := Tryz.zeroValue153
  t228 := Tryz.underlying157
  a228 := Tryz.isAgg157
  z228 := Tryz.sizeOf157
  v228 := Tryz.zeroValue157
  t229 := Tryz.underlying158
  a229 := Tryz.isAgg158
  z229 := Tryz.sizeOf158
  v229 := Tryz.zeroValue158 }

open Go.Sort Go.RowKit in
theorem Sh_slices_Sort_int (blk off cap : Nat) (zs : List Int) (w : World) (hH : Holds (Value.int .i64) w blk off zs.toArray) (hblk : blk < w.heap.size) (hsz : zs.length < 4611686018427387904) :
    Calls Tryz.prog 76 #[.slice (some ⟨blk, off, none⟩) zs.length cap] w fun e w' =>
      e = .returned (.tuple #[]) ∧ ∃ n os, w' = grow (putRow (Value.int .i64) (Sort.ahead w n) blk off (zs.mergeSort fun x y => decide (x ≤ y)).toArray) os := Any.slices_Sort_int Sh_lays189 blk off cap zs w hH hblk hsz

open Go.RowKit Go.Sort in
theorem Sh_slices_Sort_int_none (p : Option Addr) (cap : Nat) (w : World) :
    Calls Tryz.prog 76 #[.slice p 0 cap] w fun e w' => e = .returned (.tuple #[]) ∧ w' = w := Any.slices_Sort_int_none Sh_lays189 p cap w

theorem sortOwn (a : Option Addr) (cap : Nat) (xs : List Int) (B : Nat) (w : World) (hl : xs.length ≤ 1048576) (ho : OwnI w B (.slice a xs.length cap) xs) :
    Calls Tryz.prog 76 #[.slice a xs.length cap] w fun e w' => e = .returned (.tuple #[]) ∧ OwnI w' B (.slice a (srt xs).length cap) (srt xs) ∧ w.grownBy w' (Value.slice a xs.length cap).ownBlock := by
  rcases ho.2 with ⟨e0, h0⟩ | ⟨g, cap', cur, e0, hbase, hb, h1, h2, h3, h4⟩
  · have hx : xs = [] := List.length_eq_zero_iff.1 h0
    subst hx
    refine (Sh_slices_Sort_int_none a cap w).mono ?_
    rintro e w' ⟨rfl, rfl⟩
    exact ⟨rfl, by rw [show srt [] = [] from by simp [srt]]; exact ho, World.grownBy.refl _ _⟩
  · simp only [Value.slice.injEq] at e0
    obtain ⟨rfl, -, rfl⟩ := e0
    have hh := Go.holds_of_blockI (ss := xs) hb (by simpa using h4)
    refine (Sh_slices_Sort_int g 0 cap xs w hh ((Array.getElem?_eq_some_iff.1 hb).1) (by omega)).mono ?_
    rintro e w' ⟨rfl, nn, os, rfl⟩
    refine ⟨rfl, ?_, Go.grownBy_sortedI _⟩
    have := Go.ownsRow_sortedI (n := nn) (os := os) (ss := xs) (ts := srt xs) (srt_len xs) hbase hb h1 h2 h3
    unfold OwnI
    rw [srt_len]
    exact this

def Sh_laysNm220_ren : Go.Shelf.Ren := ⟨fun | 20 => 77 | n => n, fun | 22 => 24 | 3 => 3 | 4 => 4 | 0 => 0 | n => n, fun | n => n⟩
theorem Sh_laysNm220 : Go.Proofs.Lays2.n20 Tryz.prog Sh_laysNm220_ren := {
  mixed := by kernel_rfl
  f20 := Tryz.func77.trans (congrArg some (by kernel_rfl))
  t0 := Tryz.underlying0
  a0 := Tryz.isAgg0
  z0 := Tryz.sizeOf0
  v0 := Tryz.zeroValue0
  t3 := Tryz.underlying3
  a3 := Tryz.isAgg3
  z3 := Tryz.sizeOf3
  v3 := Tryz.zeroValue3
  t4 := Tryz.underlying4
  a4 := Tryz.isAgg4
  z4 := Tryz.sizeOf4
  v4 := Tryz.zeroValue4
  t22 := Tryz.underlying24
  a22 := Tryz.isAgg24
  z22 := Tryz.sizeOf24
  v22 := Tryz.zeroValue24
  i3 := by kernel_rfl }

open Go.RowKit Go.Lib Go.Sort in
theorem Sh_slices_Compact_int (blk off cap : Nat) (zs : List Int) (w : World) (hH : Holds (Value.int .i64) w blk off zs.toArray) (hsz : zs.length ≤ 9223372036854775807) (hcap : zs.length ≤ cap) :
    Calls Tryz.prog 77 #[.slice (some ⟨blk, off, none⟩) zs.length cap] w fun e w' => e = .returned (.slice (some ⟨blk, off, none⟩) (Lib.compact zs).length cap) ∧ ∃ q, w' = putRow (Value.int .i64) (Sort.ahead w q) blk off (Lib.compact zs ++ List.replicate (zs.length - (Lib.compact zs).length) 0).toArray := Any.slices_Compact_int Sh_laysNm220 blk off cap zs w hH hsz hcap

open Go.RowKit Go.Lib Go.Sort in
theorem Sh_slices_Compact_int_empty (a : Option Addr) (cap : Nat) (w : World) :
    Calls Tryz.prog 77 #[.slice a 0 cap] w fun e w' => e = .returned (.slice a 0 cap) ∧ w' = w := Any.slices_Compact_int_empty Sh_laysNm220 a cap w

theorem compactOwn (a : Option Addr) (cap : Nat) (xs : List Int) (B : Nat) (w : World) (ho : OwnI w B (.slice a xs.length cap) xs) :
    Calls Tryz.prog 77 #[.slice a xs.length cap] w fun e w' => e = .returned (.slice a (Go.Lib.compact xs).length cap) ∧ OwnI w' B (.slice a (Go.Lib.compact xs).length cap) (Go.Lib.compact xs) ∧ w.grownBy w' (Value.slice a xs.length cap).ownBlock := by
  rcases ho.2 with ⟨e0, h0⟩ | ⟨g, cap', cur, e0, hbase, hb, h1, h2, h3, h4⟩
  · have hx : xs = [] := List.length_eq_zero_iff.1 h0
    subst hx
    refine (Sh_slices_Compact_int_empty a cap w).mono ?_
    rintro e w' ⟨rfl, rfl⟩
    exact ⟨rfl, ho, World.grownBy.refl _ _⟩
  · simp only [Value.slice.injEq] at e0
    obtain ⟨rfl, -, rfl⟩ := e0
    have hh := Go.holds_of_blockI (ss := xs) hb (by simpa using h4)
    have hcl := Go.Lib.compact_length_le xs
    refine (Sh_slices_Compact_int g 0 cap xs w hh (by unfold maxLen at h2; omega) h1).mono ?_
    rintro e w' ⟨rfl, nn, rfl⟩
    have hg := Go.grownBy_sortedI (w := w) (g := g) (n := nn) (os := #[]) (Go.Lib.compact xs ++ List.replicate (xs.length - (Go.Lib.compact xs).length) 0).toArray
    have ho := Go.ownsRow_sortedI (n := nn) (os := #[]) (ss := xs) (ts := Go.Lib.compact xs ++ List.replicate (xs.length - (Go.Lib.compact xs).length) 0) (by rw [List.length_append, List.length_replicate]; omega) hbase hb h1 h2 h3
    rw [Go.Sort.grow_empty] at hg ho
    refine ⟨rfl, ?_, hg⟩
    have hc := ownsRow_cut ho hcl
    have e1 : (List.map (Value.int .i64) (Go.Lib.compact xs ++ List.replicate (xs.length - (Go.Lib.compact xs).length) 0)).take (Go.Lib.compact xs).length = (Go.Lib.compact xs).map (Value.int .i64) := by
      rw [← List.map_take, List.take_left']
      rfl
    rw [e1] at hc
    exact hc

theorem bang (l : List Int) {j : Nat} (h : j < l.length) : l.toArray[j]! = nth l j := by
  rw [getElem!_pos l.toArray j (by simpa using h), nth_get l j h]; simp
theorem cu_inc {l : List Int} (h : l.Pairwise (· ≤ ·)) : ∀ m, m ≤ l.length → Inc (Go.Lib.compactUpTo l.toArray m) ∧ (∀ x, x ∈ Go.Lib.compactUpTo l.toArray m ↔ ∃ j, j < m ∧ nth l j = x)
  | 0, _ => ⟨List.Pairwise.nil, fun x => by simp [Go.Lib.compactUpTo]⟩
  | m+1, hm => by
    obtain ⟨h1, h2⟩ := cu_inc h m (by omega)
    have hle : ∀ i j, i ≤ j → j < l.length → nth l i ≤ nth l j := fun i j hij hj => by
      rw [nth_get _ _ (by omega), nth_get _ _ hj]
      rcases Nat.lt_or_eq_of_le hij with h3 | rfl
      · exact (List.pairwise_iff_getElem.1 h) i j (by omega) hj h3
      · exact Int.le_refl _
    rw [Go.Lib.compactUpTo_succ, bang l (by omega)]
    cases hk : Go.Lib.keeps l.toArray m
    · rw [if_neg (by simp), List.append_nil]
      refine ⟨h1, fun x => ?_⟩
      rw [h2]
      constructor
      · rintro ⟨j, hj, e⟩
        exact ⟨j, by omega, e⟩
      · rintro ⟨j, hj, e⟩
        by_cases e2 : j = m
        · subst e2
          simp only [Go.Lib.keeps, decide_eq_false_iff_not, not_or, ne_eq, Classical.not_not] at hk
          rw [bang l (by omega), bang l (by omega)] at hk
          exact ⟨j - 1, by omega, by rw [← hk.2]; exact e⟩
        · exact ⟨j, by omega, e⟩
    · rw [if_pos rfl]
      constructor
      · unfold Inc
        rw [List.pairwise_append]
        refine ⟨h1, List.pairwise_singleton _ _, fun a ha b hb => ?_⟩
        rw [List.mem_singleton] at hb
        subst hb
        obtain ⟨j, hj, rfl⟩ := (h2 a).1 ha
        simp only [Go.Lib.keeps, decide_eq_true_eq] at hk
        rw [bang l (by omega), bang l (by omega)] at hk
        have hne : nth l m ≠ nth l (m - 1) := hk.resolve_left (by omega)
        have := hle j (m - 1) (by omega) (by omega)
        have := hle (m - 1) m (by omega) (by omega)
        omega
      · intro x
        rw [List.mem_append, h2, List.mem_singleton]
        constructor
        · rintro (⟨j, hj, e⟩ | e)
          · exact ⟨j, by omega, e⟩
          · exact ⟨m, by omega, e.symm⟩
        · rintro ⟨j, hj, e⟩
          by_cases e2 : j = m
          · subst e2; exact .inr e.symm
          · exact .inl ⟨j, by omega, e⟩
theorem compact_inc {l : List Int} (h : l.Pairwise (· ≤ ·)) : Inc (Go.Lib.compact l) := (cu_inc h l.length (Nat.le_refl _)).1
theorem compact_mem {l : List Int} (h : l.Pairwise (· ≤ ·)) (x : Int) : x ∈ Go.Lib.compact l ↔ x ∈ l := by
  have := (cu_inc h l.length (Nat.le_refl _)).2 x
  rw [Go.Lib.compact, this]
  constructor
  · rintro ⟨j, hj, rfl⟩
    rw [nth_get _ _ hj]; exact List.getElem_mem _
  · intro hx
    obtain ⟨j, hj, rfl⟩ := List.getElem_of_mem hx
    exact ⟨j, hj, nth_get _ _ hj⟩

theorem belowSet_any (n : Int) (a : Option Addr) (xs : List Int) (cap : Nat) (i : Int) (w : World) (hx : Rd w a xs) (hr : RelP n xs) (hi : 0 ≤ i) :
    Calls Tryz.prog 47 #[.agg #[.int .i64 n, .slice a xs.length cap], .int .i64 i] w fun e w' => e = .returned (.int .i64 (belowTo xs i xs.length)) ∧ Below w.heap.size w w' := by
  have hx1 := hx.alloc (.cells #[.int .i64 n, .slice a xs.length cap] 31)
  have hn : xs.length ≤ 10 := by have := hr.len; have := hr.n1; omega
  go_enter Tryz.func47, Tryz.ntmps47
  go_wp2_with fail
  go_loop [5, 11] (fun s i' => ∃ k : Nat, k ≤ xs.length ∧ i' = .int .i64 k ∧ s = .int .i64 (belowTo xs i k)) (fun _ i => xs.length - (intOf i).toNat)
  case atStart => exact ⟨0, Nat.zero_le _, rfl, rfl⟩
  case round =>
    obtain ⟨k, hk, rfl, rfl⟩ := hrel
    by_cases hlt : k < xs.length
    · obtain ⟨b, off, rfl, hbl, hc⟩ := hx1.cell k hlt
      obtain ⟨b', off', e', hbl', hc'⟩ := hx.cell k hlt
      simp only [Option.some.injEq, Addr.mk.injEq, and_true] at e'
      obtain ⟨rfl, rfl⟩ := e'
      have hpk := hr.pos k hlt
      have hsk : nth xs k ≤ 9223372036854775807 := by have := hr.small k hlt; omega
      have hbs := belowTo_small xs i (k := k) (by omega)
      have hor := Lib.hid (or_bit (b := belowTo xs i k) (k := k) (by omega) (by omega))
      clear hbs
      cases hin : hasB (nth xs k) i
      · go_wp2_with (go_at_call 41; refine (hasElement_any _ _ _ hpk hsk hi).mono ?_; rintro e w' ⟨rfl, rfl⟩)
        go_round
        case rel => exact ⟨k + 1, by omega, by go_num, by simp [belowTo, hin]⟩
        case measure => simp [intOf]; omega
      · go_wp2_with (go_at_call 41; refine (hasElement_any _ _ _ hpk hsk hi).mono ?_; rintro e w' ⟨rfl, rfl⟩)
        go_round
        case rel => exact ⟨k + 1, by omega, by go_num, val_int (by rw [hor.out]; simp [belowTo, hin])⟩
        case measure => simp [intOf]; omega
    · obtain rfl : k = xs.length := by omega
      go_wp2_with fail
      go_ret
      exact ⟨rfl, (by repeat (first | exact Below.refl _ _ | assumption | refine Below.alloc ?_ (by first | exact Nat.le_refl _ | (simp only [World.size_alloc, World.size_setCell, World.size_drew]; omega) | omega) _ | refine Below.setCell ?_ (by first | exact Nat.le_refl _ | (simp only [World.size_alloc, World.size_setCell, World.size_drew]; omega) | omega) _ | refine Below.drew ?_))⟩

theorem belowSets_any (n : Int) (a : Option Addr) (xs : List Int) (cap : Nat) (w : World) (hx : Rd w a xs) (hr : RelP n xs) :
    Calls Tryz.prog 60 #[.agg #[.int .i64 n, .slice a xs.length cap]] w fun e w' => ∃ a' cap', e = .returned (.slice a' xs.length cap') ∧ OwnI w' w.heap.size (.slice a' xs.length cap') (belows xs xs.length) ∧ Below w.heap.size w w' := by
  obtain ⟨i0, hi, hz0, hz1, hz2⟩ := info_parts infoInt
  have hn0 := hr.n0
  have hn1 := hr.n1
  obtain rfl : n = (xs.length : Int) := hr.len.symm
  have hn : xs.length ≤ 10 := by omega
  go_enter Tryz.func60, Tryz.ntmps60
  go_wp2_with (at_make; refine wpList_make_full _ rfl (.tmp 6) (.tmp 6) 24 rfl (w.heap.size + 1) 3 i0 (.int .i64 0) 1 Tryz.underlying24 hi hz0 hz1 .i64 .i64 _ _ xs.length rfl rfl rfl rfl (by rw [hz2]; omega) (by unfold maxLen; omega) (by simp) ?_; intro w1 hown hgrow)
  have hb0 : Below w.heap.size w w1 := ((Below.refl _ _).alloc (Nat.le_refl _) _).grown hgrow (by simp) (fun k h => by cases h)
  have hown0 := made_ints (fun i => ((belowTo xs i xs.length : Nat) : Int)) hown
  have B1 : Box2 w1 w.heap.size (.int .i64 (xs.length : Int)) (.slice a xs.length cap) := (Box2.new w _ _ _).kept hgrow (by simp)
  have hx1 : Rd w1 a xs := hx.below hb0
  clear hown hgrow
  simp only [World.size_alloc] at *
  have hz : w.heap.size + 1 < w1.heap.size := by
    have := (World.ownsRow.lt hown0 (w.heap.size + 1) rfl).2
    omega
  go_wp2_with fail
  go_loopw [10] (fun i wr => ∃ k : Nat, k ≤ xs.length ∧ i = .int .i64 k ∧ wr.ownsRow (w.heap.size + 1) 3 1 (.slice (some ⟨w.heap.size + 1, 0, none⟩) xs.length xs.length) xs.length ((fmap (fun i => ((belowTo xs i xs.length : Nat) : Int)) k ++ List.replicate (xs.length - k) (0:Int)).map (Value.int .i64)) ∧ Below w.heap.size w wr ∧ Box2 wr w.heap.size (.int .i64 (xs.length : Int)) (.slice a xs.length cap)) (fun i _ => xs.length - (intOf i).toNat)
  case atStart => exact ⟨0, Nat.zero_le _, rfl, hown0, hb0, B1⟩
  case round =>
    obtain ⟨k, hk, rfl, hown, hb, hB⟩ := hrel
    have ⟨zr, cr, dr⟩ := hB
    by_cases hlt : k < xs.length
    · go_wp2_with fail
      refine (belowSet_any _ _ _ _ _ _ (hx.below hb) hr (by omega)).mono ?_
      rintro e w2 ⟨rfl, hb2⟩
      have hown2 : w2.ownsRow (w.heap.size + 1) 3 1 (.slice (some ⟨w.heap.size + 1, 0, none⟩) xs.length xs.length) xs.length _ := World.ownsRow.kept hown (below_grown hb2 (Nat.le_refl _) none) (.inr (by simp [Value.ownBlock]))
      have hst := World.ownsRow.stored hown2 k (.int .i64 ((belowTo xs k xs.length : Nat) : Int))
      rw [fill_step (fun i => ((belowTo xs i xs.length : Nat) : Int)) xs.length k hlt] at hst
      have hcc := World.ownsRow.cellAt hown2 k (by omega)
      have hfr := World.ownsRow.frozenAt hown2 k
      have hcc' : ∃ u, w2.cell? ⟨w.heap.size + 1, k, none⟩ = some u := by
        rw [hcc]
        exact ⟨_, List.getElem?_eq_getElem (by simp [fmap_len]; omega)⟩
      obtain ⟨u, hu⟩ := hcc'
      have hB2 := hB.below hb2
      have hB3 := hB2.kept hst.2 (by simp)
      have hbw := hb.trans (hb2.mono hb.size)
      have Hst := Lib.hid hst
      clear hst hcc hown hown2 hb2
      go_wp2_with fail
      go_roundw
      case rel => exact ⟨k + 1, by omega, by go_num, Hst.out.1, hbw.setCell (by simp) _, hB3⟩
      case measure => simp [intOf]; omega
    · obtain rfl : k = xs.length := by omega
      go_wp2_with fail
      go_ret
      rw [fill_end] at hown
      refine ⟨_, _, rfl, OwnI.mono (B := w.heap.size + 1) ?_ (by omega), hb⟩
      show World.ownsRow _ _ _ _ _ _ _
      rw [belows_len]
      exact hown

theorem sets_eq (xs : List Int) : Go.Lib.compact (srt (belows xs xs.length)) = sets xs := by
  refine inc_ext (compact_inc (srt_le _)) (setsTo_inc xs _) (fun x => ?_)
  rw [compact_mem (srt_le _), srt_mem, sets, setsTo_mem]
  simp only [belows, fmap, List.mem_map, List.mem_range]
  constructor
  · rintro ⟨j, hj, e⟩
    exact ⟨j, hj, e.symm⟩
  · rintro ⟨j, hj, e⟩
    exact ⟨j, hj, e.symm⟩
theorem lowerSets_any (n : Int) (a : Option Addr) (xs : List Int) (cap : Nat) (w : World) (hx : Rd w a xs) (hr : RelP n xs) :
    Calls Tryz.prog 43 #[.agg #[.int .i64 n, .slice a xs.length cap]] w fun e w' => ∃ a' cap', e = .returned (.slice a' (sets xs).length cap') ∧ OwnI w' w.heap.size (.slice a' (sets xs).length cap') (sets xs) ∧ Below w.heap.size w w' := by
  have hx1 := hx.alloc (.cells #[.int .i64 n, .slice a xs.length cap] 31)
  have HE := Lib.hid (sets_eq xs)
  go_enter Tryz.func43, Tryz.ntmps43
  go_wp2_with fail
  refine (belowSets_any _ _ _ _ _ hx1 hr).mono ?_
  rintro e w1 ⟨a1, cap1, rfl, ho1, hb1⟩
  have bw1 : Below w.heap.size w w1 := Below.trans (by repeat (first | exact Below.refl _ _ | assumption | refine Below.alloc ?_ (by first | exact Nat.le_refl _ | (simp only [World.size_alloc, World.size_setCell, World.size_drew]; omega) | omega) _ | refine Below.setCell ?_ (by first | exact Nat.le_refl _ | (simp only [World.size_alloc, World.size_setCell, World.size_drew]; omega) | omega) _ | refine Below.drew ?_)) (hb1.mono (by first | (simp only [World.size_alloc, World.size_setCell, World.size_drew]; omega) | omega))
  have o1 : OwnI w1 w.heap.size (.slice a1 (belows xs xs.length).length cap1) (belows xs xs.length) := by
    rw [belows_len]; exact ho1.mono (by simp)
  clear hb1 ho1
  go_wp2_with fail
  have hs := sortOwn a1 cap1 (belows xs xs.length) w.heap.size w1 (by rw [belows_len]; have := hr.len; have := hr.n1; omega) o1
  rw [belows_len] at hs
  refine hs.mono ?_
  rintro e w2 ⟨rfl, ho2, hg2⟩
  clear hs
  have hU := o1.lt
  rw [belows_len] at hU
  have bw2 := bw1.trans (below_of_grown hg2 (fun b e => (hU b e).1) bw1.size)
  have hsl : (srt (belows xs xs.length)).length = xs.length := by rw [srt_len, belows_len]
  have HSL := Lib.hid hsl
  clear hg2 hU o1 hsl
  go_wp2_with fail
  have hc := compactOwn a1 cap1 (srt (belows xs xs.length)) w.heap.size w2 ho2
  rw [HSL.out, HE.out] at hc
  refine hc.mono ?_
  rintro e w3 ⟨rfl, ho3, hg3⟩
  clear hc
  have hU := ho2.lt
  rw [HSL.out] at hU
  have bw3 := bw2.trans (below_of_grown hg3 (fun b e => (hU b e).1) bw2.size)
  clear hg3 hU ho2
  go_wp2_with fail
  go_ret
  exact ⟨a1, cap1, rfl, ho3, bw3⟩

theorem setsTo_L (xs : List Int) (k : Nat) : putL (setsTo xs k) ((belowTo xs (k : Int) xs.length : Nat) : Int) = setsTo xs (k+1) := rfl
theorem lessB_ne {s own : Int} (h : (s != own) = false) : lessB s own = false := by simp [lessB, h]
theorem lessB_val {s own : Int} (h : (s != own) = true) : lessB s own = (sub s.toNat own.toNat == 0) := by simp [lessB, h]
theorem lessB_sub {s : Int} {o : Nat} (h0 : 0 ≤ s) (h1 : s < 1024) (h2 : o < 1024) (h : (s != (o : Int)) = true) : (bits .andNot .i64 s (o : Int) == 0) = lessB s (o : Int) := by
  rw [lessB_val h, sub_i h0 (by omega) (by omega) (by omega), Int.toNat_natCast, Bool.eq_iff_iff, beq_iff_eq, beq_iff_eq]
  omega

end Go.Proofs.YtiodfmiielnngaaGreat.top
