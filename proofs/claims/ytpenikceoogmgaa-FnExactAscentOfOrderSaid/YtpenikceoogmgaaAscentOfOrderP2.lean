/- A part of the proof of YtpenikceoogmgaaAscentOfOrder: contracts of functions. -/
import Derived.Test.YtpenikceoogmgaaRows
import Derived.WalkKit
import Derived.WalkSpells
import Derived.WalkLawsBesides
import Derived.Deep.QuietTactic
import Derived.BigQuiet
import Derived.ProofKit
import Derived.OpenShut
import Derived.ShutString
import Derived.ChangeOld
import Derived.Below
import Derived.Lib.SmallJoins
import Derived.Lib.Hide
import Derived.Shelf.Small.Bits
import Derived.Shelf.Small.Wraps
import Derived.Shelf.Strconv.Itoa0
import Derived.Shelf.Sort.Plain
import Derived.Shelf.Slices.Reverse
import Derived.Shelf.Slices.Equal
import Derived.Shelf.Slices.CompactI
import Derived.Shelf.Slices.SearchI
import Derived.Shelf.Slices.Delete
import Derived.Shelf.Slices.Cells
import Derived.Shelf.Slices.In.SortNone
import Derived.Shelf.Slices.Empties2
import Derived.Sort.OwnSortedInts
import Derived.Lib.SliceRun
import Derived.Deep.RegionLaw
import Derived.Maps.AppendAt
import Derived.Deep.AppendLies
import Derived.Lib.SlicesCompact
import Derived.Lib.RowBridge
import Derived.Deep.RegionHeld3
import Derived.Test.YtpenikceoogmgaaAscentOfOrderP1
namespace Go.Proofs.Ytpenikceoogmgaa.ascentOfOrder
open Go Go.RowKit
set_option linter.unusedVariables false
set_option linter.unusedSimpArgs false
set_option maxHeartbeats 400000
open Go.Shelf
theorem totR_sum (xs : List Int) : totR xs = xs.sum := by
  have : ∀ k, k ≤ xs.length → totI xs k = (xs.take k).sum := by
    intro k
    induction k with
    | zero => intro _; rfl
    | succ k ih =>
      intro hk
      rw [totI, ih (by omega), List.take_succ_eq_append_getElem (by omega), List.sum_append, nth_get _ _ (by omega)]
      simp
  rw [totR, this _ (Nat.le_refl _), List.take_length]
theorem tot_fmap (h : Nat → Int) (n : Nat) : totI (fmap h n) n = totR (fmap h n) := by rw [totR, fmap_len]
theorem tot_skip {h : Nat → Int} {n x : Nat} (hx : x < n) : totR (fmap (fun a => h (skp x a)) (n - 1)) + h x = totR (fmap h n) := by
  rw [← fmap_del hx, totR_sum, totR_sum, List.sum_append]
  have e : fmap h n = (fmap h n).take x ++ ([h x] ++ (fmap h n).drop (x+1)) := by
    have h1 := (List.take_append_drop x (fmap h n)).symm
    rw [List.drop_eq_getElem_cons (by rw [fmap_len]; exact hx)] at h1
    have h2 : (fmap h n)[x]'(by rw [fmap_len]; exact hx) = h x := by simp [fmap]
    rw [h2] at h1
    exact h1
  have h3 := congrArg List.sum e
  rw [List.sum_append, List.sum_append] at h3
  simp at h3
  omega
theorem tot_ex {h : Nat → Int} {n : Nat} (ht : 0 < totR (fmap h n)) (hn : ∀ j, j < n → 0 ≤ h j) : ∃ j, j < n ∧ 0 < h j := by
  apply Classical.byContradiction
  intro hno
  have hz : totI (fmap h n) (fmap h n).length = 0 := totI_zero (fun j hj => by
    rw [fmap_len] at hj
    rw [fmap_nth _ hj]
    have h1 := hn j hj
    have h2 : ¬ 0 < h j := fun h3 => hno ⟨j, hj, h3⟩
    omega)
  rw [totR, hz] at ht
  omega
theorem tot_pos {h : Nat → Int} {n j : Nat} (hn : ∀ j, j < n → 0 ≤ h j) (hj : j < n) (hp : 0 < h j) : 0 < totR (fmap h n) := by
  have h1 := totI_at (xs := fmap h n) (j := j) (k := n) hj (fun i hi => by rw [fmap_nth _ hi]; exact hn i hi)
  rw [fmap_nth _ hj, tot_fmap] at h1
  omega
theorem sqS_rows {f : Nat → Nat → Int} {n : Nat} : ∀ {m : Nat}, sqS f n m = totR (fmap (fun i => totR (fmap (f i) n)) m)
  | 0 => rfl
  | m+1 => by
    rw [sqS, sqS_rows (f := f) (n := n) (m := m), ← tot_fmap (fun i => totR (fmap (f i) n)) (m+1), totI, fmap_nth _ (show m < m + 1 by omega), totI_fmap (f := fun i => totR (fmap (f i) n)) (n := m + 1) (k := m) (by omega), tot_fmap]
    rw [tot_fmap (fun i => totR (fmap (f i) n)) m]
theorem mk_mx {g : Nat → Nat → Int} {n : Nat} (hnn : ∀ i, i < n → ∀ j, j < n → 0 ≤ g i j) (hup : ∀ i, i < n → ∀ j, j < i → g i j = 0) (hrow : ∀ i, i < n → 0 < totR (fmap (g i) n)) (hcol : ∀ j, j < n → 0 < totR (fmap (fun i => g i j) n)) (hs : sqS g n n ≤ 12) : mxB (sqM g n n) = true ∧ matS (sqM g n n) (sqM g n n).length = sqS g n n := by
  have hcols : colsL (sqM g n n) = sqM (fun a b => g b a) n n := by
    rw [colsL_sq, sqM_len]
    exact sqM_congr (fun i hi j hj => sqM_at hj hi)
  have hms : matS (sqM g n n) (sqM g n n).length = sqS g n n := by
    rw [sqM_len, matS_sq (n := n) (fun i hi => sqM_rlen hi)]
    have : ∀ k, k ≤ n → sqS (atM (sqM g n n)) n k = sqS g n k := by
      intro k
      induction k with
      | zero => intro _; rfl
      | succ k ih =>
        intro hk
        rw [sqS, sqS, ih (by omega)]
        congr 1
        exact totI_congr (fun j hj => by rw [fmap_nth _ hj, fmap_nth _ hj, sqM_at (by omega) hj])
    exact this n (Nat.le_refl _)
  refine ⟨mxB_iff.2 ⟨adB_iff.2 ⟨fun k hk => ?_, by rw [hms]; exact hs⟩, upB_iff.2 (fun i hi => ?_), ?_⟩, hms⟩
  · rw [sqM_len] at hk
    rw [sqM_row hk]
    exact ⟨fun j hj => by rw [fmap_len] at hj; rw [fmap_nth _ hj]; exact hnn k hk j hj, hrow k hk⟩
  · rw [sqM_len] at hi
    rw [sqM_len]
    exact ⟨sqM_rlen hi, fun j hj => by rw [sqM_at hi (by omega)]; exact hup i hi j hj⟩
  · have hmc := matS_cols (xss := sqM g n n) (fun i hi => by rw [sqM_len] at hi ⊢; exact sqM_rlen hi)
    rw [hcols] at hmc ⊢
    refine adB_iff.2 ⟨fun k hk => ?_, by rw [hmc, hms]; exact hs⟩
    rw [sqM_len] at hk
    rw [sqM_row hk]
    exact ⟨fun j hj => by rw [fmap_len] at hj; rw [fmap_nth _ hj]; exact hnn j hj k hk, hcol k hk⟩
/-- what a matrix says of its numbers -/
theorem of_mx {xss : List (List Int)} (h : mxB xss = true) : (∀ i, i < xss.length → 0 < totR (fmap (atM xss i) xss.length)) ∧ (∀ j, j < xss.length → 0 < totR (fmap (fun i => atM xss i j) xss.length)) ∧ (∀ i, i < xss.length → ∀ j, j < i → atM xss i j = 0) ∧ matS xss xss.length = sqS (atM xss) xss.length xss.length ∧ sqS (atM xss) xss.length xss.length ≤ 12 := by
  have ⟨h1, h2, h3⟩ := mxB_iff.1 h
  have hms := matS_sq (xss := xss) (n := xss.length) (k := xss.length) (fun i hi => mxB_len h hi)
  refine ⟨fun i hi => ?_, fun j hj => ?_, fun i hi => (upB_iff.1 h2 i hi).2, hms, by rw [← hms]; exact (adB_iff.1 h1).2⟩
  · have h4 := (adB_row h1 hi).1
    have h5 : rowL xss i = fmap (atM xss i) xss.length := by
      have h6 := list_fmap (rowL xss i)
      rw [mxB_len h hi] at h6
      exact h6
    rw [h5] at h4; exact h4
  · have h4 := (adB_row h3 (k := j) (by rw [colsL_len]; exact hj)).1
    rw [colsL_row hj] at h4
    exact h4
/-- a row keeps its sum -/
theorem sh_row {f : Nat → Nat → Int} {d x i j : Nat} (hj : skp x j = i) (hx : x < d) (hup : ∀ j, j < i → f i j = 0) (hz : i < x → f i (d - 1) = 0) : totR (fmap (shF f d x j) (d - 1)) = totR (fmap (f i) d) := by
  have hne : i ≠ x := by rw [← hj, skp]; split <;> omega
  rw [← shF_row hj]
  have h1 := tot_skip (h := rowU f d x i) hx
  by_cases hc : i < x ∧ x < d - 1
  · have h2 : fmap (rowU f d x i) d = (fmap (f i) d).set (d - 1) (f i x) := by
      rw [list_fmap ((fmap (f i) d).set (d - 1) (f i x))]
      simp only [List.length_set, fmap_len]
      refine fmap_ext (fun b hb => ?_)
      rw [nth_setM (by rw [fmap_len]; omega), fmap_nth _ hb, rowU]
      by_cases e : b = d - 1
      · rw [if_pos ⟨hc, e⟩, if_pos e]
      · rw [if_neg (fun h => e h.2), if_neg e]
    have h3 := tot_skip (h := rowU f d x i) (n := d) (x := d - 1) (by omega)
    have h4 := tot_skip (h := f i) (n := d) (x := d - 1) (by omega)
    have h5 : fmap (fun a => rowU f d x i (skp (d - 1) a)) (d - 1) = fmap (fun a => f i (skp (d - 1) a)) (d - 1) := fmap_ext (fun a ha => by
      rw [rowU, if_neg]
      rintro ⟨_, h6⟩
      rw [skp] at h6
      split at h6 <;> omega)
    rw [h5] at h3
    have h7 : rowU f d x i (d - 1) = f i x := by rw [rowU, if_pos ⟨hc, rfl⟩]
    have h8 : rowU f d x i x = f i x := by rw [rowU, if_neg (fun h => by omega)]
    have h9 := hz hc.1
    rw [h7] at h3
    rw [h8] at h1
    omega
  · have h2 : fmap (rowU f d x i) d = fmap (f i) d := fmap_ext (fun b hb => by rw [rowU, if_neg (fun h => hc h.1)])
    have h8 : rowU f d x i x = f i x := by rw [rowU, if_neg (fun h => hc h.1)]
    have h9 : f i x = 0 := by
      by_cases h : i < x
      · have : x = d - 1 := by omega
        rw [this]; exact hz h
      · exact hup x (by omega)
    rw [h2, h8] at h1
    omega
/-- a matrix that has been shrunk is a matrix, its sum is one less -/
theorem sh_mx {xss : List (List Int)} (h : topB xss = true) : mxB (shL xss) = true ∧ matS (shL xss) (shL xss).length + 1 = matS xss xss.length := by
  have ⟨hmx, hpos⟩ := topB_mx h
  have htl := topN_lt hmx hpos
  have ⟨hr, hc, hup, hms, h12⟩ := of_mx hmx
  have hnn : ∀ i, i < xss.length → ∀ j, j < xss.length → 0 ≤ atM xss i j := fun i hi j hj => (mxB_num hmx hi hj).1
  have hzt : ∀ i, i < topN xss → atM xss i (xss.length - 1) = 0 := fun i hi => topN_zero hi
  have hne := topN_ne hmx hpos
  have hrT : totR (rowL xss (topN xss)) = totR (fmap (atM xss (topN xss)) xss.length) := by
    have h6 := list_fmap (rowL xss (topN xss))
    rw [mxB_len hmx htl] at h6
    exact congrArg totR h6
  rw [shL, if_pos h, hrT, hms]
  generalize hx : topN xss = x at *
  generalize hf : atM xss = f at *
  generalize hd : xss.length = d at *
  clear hx hf hd h hmx hrT hms
  have hnx := hnn x htl (d - 1) (by omega)
  have hdd : 0 < f (d - 1) (d - 1) := by
    obtain ⟨j, hj, hp⟩ := tot_ex (hr (d - 1) (by omega)) (fun j hj => hnn (d - 1) (by omega) j hj)
    by_cases e : j = d - 1
    · rw [e] at hp; exact hp
    · have := hup (d - 1) (by omega) j (by omega); omega
  split
  · rename_i hS
    have hsk : ∀ a, a < d - 1 → skp x a < d ∧ skp x a ≠ x := fun a ha => by rw [skp]; split <;> omega
    have hval : ∀ a b, a < d - 1 → b < d - 1 → shF f d x a b = if skp x a < x ∧ skp x b = d - 1 then f (skp x a) x else f (skp x a) (skp x b) := fun a b ha hb => by
      have h1 := (hsk b hb).2
      rw [shF, swF]
      by_cases h2 : skp x a < x
      · rw [if_pos h2]
        by_cases h3 : skp x b = d - 1
        · rw [if_pos h3, if_pos ⟨h2, h3⟩]
        · rw [if_neg h3, if_neg h1, if_neg (fun h => h3 h.2)]
      · rw [if_neg h2, if_neg (fun h => h2 h.1)]
    have hnn2 : ∀ a, a < d - 1 → ∀ b, b < d - 1 → 0 ≤ shF f d x a b := fun a ha b hb => by
      rw [hval a b ha hb]
      split
      · exact hnn _ (hsk a ha).1 _ htl
      · exact hnn _ (hsk a ha).1 _ (hsk b hb).1
    have hrow2 : ∀ a, a < d - 1 → totR (fmap (shF f d x a) (d - 1)) = totR (fmap (f (skp x a)) d) := fun a ha => sh_row rfl htl (fun j hj => hup _ (hsk a ha).1 j hj) (fun h2 => hzt _ h2)
    have hxrow : ∀ j, j < d - 1 → f x j = 0 := fun j hj => by
      have h1 := tot_skip (h := f x) (n := d) (x := d - 1) (by omega)
      have h2 := totI_at (xs := fmap (fun a => f x (skp (d - 1) a)) (d - 1)) (j := j) (k := d - 1) hj (fun i hi => by rw [fmap_nth _ hi]; exact hnn x htl _ (by rw [skp]; split <;> omega))
      rw [fmap_nth _ hj, tot_fmap, show skp (d - 1) j = j by rw [skp, if_pos hj]] at h2
      have h3 := hnn x htl j (by omega)
      omega
    have hsum : sqS (shF f d x) (d - 1) (d - 1) + 1 = sqS f d d := by
      rw [sqS_rows, sqS_rows (f := f)]
      have h1 := tot_skip (h := fun i => totR (fmap (f i) d)) htl
      have h2 : fmap (fun i => totR (fmap (shF f d x i) (d - 1))) (d - 1) = fmap (fun a => totR (fmap (f (skp x a)) d)) (d - 1) := fmap_ext (fun a ha => hrow2 a ha)
      rw [h2]
      omega
    have hm := mk_mx (g := shF f d x) (n := d - 1) hnn2 (fun a ha b hb => by
        rw [hval a b ha (by omega)]
        have hlt : skp x b < skp x a := by rw [skp, skp]; split <;> split <;> omega
        rw [if_neg (fun h => by have := (hsk a ha).1; omega)]
        exact hup _ (hsk a ha).1 _ hlt) (fun a ha => by rw [hrow2 a ha]; exact hr _ (hsk a ha).1) (fun b hb => by
        by_cases hq : skp x b = d - 1
        · have hxd : x < d - 1 := by rw [skp] at hq; split at hq <;> omega
          have hlast : skp x (d - 2) = d - 1 := by rw [skp, if_neg (by omega)]; omega
          refine tot_pos (fun a ha => hnn2 a ha b hb) (j := d - 2) (by omega) ?_
          rw [hval (d - 2) b (by omega) hb, hlast, if_neg (fun h => by omega), hq]
          exact hdd
        · obtain ⟨i, hi, hp⟩ := tot_ex (hc (skp x b) (hsk b hb).1) (fun i hi => hnn i hi _ (hsk b hb).1)
          have hix : i ≠ x := fun e => by
            rw [e, hxrow (skp x b) (by have := (hsk b hb).1; omega)] at hp
            omega
          have hex : ∃ a, a < d - 1 ∧ skp x a = i := by
            by_cases h9 : i < x
            · exact ⟨i, by omega, by rw [skp, if_pos h9]⟩
            · exact ⟨i - 1, by omega, by rw [skp, if_neg (by omega)]; omega⟩
          obtain ⟨a, ha, rfl⟩ := hex
          refine tot_pos (fun a ha => hnn2 a ha b hb) ha ?_
          rw [hval a b ha hb, if_neg (fun h => hq h.2)]
          exact hp) (by omega)
    exact ⟨hm.1, by rw [hm.2]; exact hsum⟩
  · rename_i hS
    have hS1 := hr x htl
    have hrow2 : ∀ a, a < d → a ≠ x → fmap (decF f d x a) d = fmap (f a) d := fun a ha hne => fmap_ext (fun b hb => by rw [decF, if_neg (fun h => hne h.1)])
    have hrx : totR (fmap (decF f d x x) d) + 1 = totR (fmap (f x) d) := by
      have h1 := tot_skip (h := decF f d x x) (n := d) (x := d - 1) (by omega)
      have h2 := tot_skip (h := f x) (n := d) (x := d - 1) (by omega)
      have h3 : fmap (fun a => decF f d x x (skp (d - 1) a)) (d - 1) = fmap (fun a => f x (skp (d - 1) a)) (d - 1) := fmap_ext (fun a ha => by
        rw [decF, if_neg]
        rintro ⟨_, h6⟩
        rw [skp] at h6
        split at h6 <;> omega)
      have h4 : decF f d x x (d - 1) = f x (d - 1) - 1 := by rw [decF, if_pos ⟨rfl, rfl⟩]
      rw [h3, h4] at h1
      omega
    have hnn2 : ∀ a, a < d → ∀ b, b < d → 0 ≤ decF f d x a b := fun a ha b hb => by
      rw [decF]
      split
      · omega
      · exact hnn a ha b hb
    have hsum : sqS (decF f d x) d d + 1 = sqS f d d := by
      rw [sqS_rows, sqS_rows (f := f)]
      have h1 := tot_skip (h := fun i => totR (fmap (f i) d)) htl
      have h2 := tot_skip (h := fun i => totR (fmap (decF f d x i) d)) htl
      have h3 : fmap (fun a => totR (fmap (decF f d x (skp x a)) d)) (d - 1) = fmap (fun a => totR (fmap (f (skp x a)) d)) (d - 1) := fmap_ext (fun a ha => by
        rw [hrow2 (skp x a) (by rw [skp]; split <;> omega) (by rw [skp]; split <;> omega)])
      rw [h3] at h2
      omega
    have hm := mk_mx (g := decF f d x) (n := d) hnn2 (fun a ha b hb => by
        rw [decF]
        by_cases e : a = x ∧ b = d - 1
        · omega
        · rw [if_neg e]; exact hup a ha b hb) (fun a ha => by
        by_cases e : a = x
        · rw [e]; omega
        · rw [hrow2 a ha e]; exact hr a ha) (fun b hb => by
        by_cases hq : b = d - 1
        · subst hq
          by_cases hxd : x = d - 1
          · refine tot_pos (fun a ha => hnn2 a ha _ hb) (j := d - 1) (by omega) ?_
            obtain ⟨j, hj, hp⟩ := tot_ex (h := decF f d x x) (n := d) (by omega) (fun j hj => hnn2 x htl j hj)
            by_cases e : j = d - 1
            · rw [e] at hp; rw [hxd] at hp; rw [hxd]; exact hp
            · have h8 := hup (d - 1) (by omega) j (by omega)
              rw [decF, if_neg (fun h => e h.2), hxd, h8] at hp
              omega
          · refine tot_pos (fun a ha => hnn2 a ha _ hb) (j := d - 1) (by omega) ?_
            rw [decF, if_neg (fun h => hxd h.1.symm)]
            exact hdd
        · have e : fmap (fun i => decF f d x i b) d = fmap (fun i => f i b) d := fmap_ext (fun i hi => by rw [decF, if_neg (fun h => hq h.2)])
          rw [e]
          exact hc b hb) (by omega)
    exact ⟨hm.1, by rw [hm.2]; exact hsum⟩

/-- the numbers that are taken out of a matrix, the last one taken first -/
def asF : Nat → List (List Int) → List Int
  | 0, _ => []
  | n+1, xss => asF n (shL xss) ++ [topV xss]
theorem asF_len : ∀ (n : Nat) (xss : List (List Int)), (asF n xss).length = n
  | 0, _ => rfl
  | n+1, xss => by rw [asF, List.length_append, asF_len n]; rfl
def slL : Value → Nat
  | .slice _ n _ => n
  | _ => 0
def asN (xss : List (List Int)) : Nat := (matS xss xss.length).toNat
def asL (xss : List (List Int)) : List Int := asF (asN xss) xss
theorem topB_of {xss : List (List Int)} (h : mxB xss = true) (hp : 0 < xss.length) : topB xss = true := by
  simp [topB, h]; intro e; simp [e] at hp
theorem asN_step {xss : List (List Int)} (h : topB xss = true) : asN xss = asN (shL xss) + 1 := by
  have ⟨h1, h2⟩ := sh_mx h
  have h4 : 0 ≤ matS (shL xss) (shL xss).length := by
    exact matS_nn (fun j hj => by have := (adB_row (mxB_iff.1 h1).1 hj).1; omega)
  rw [asN, asN]; omega
theorem asF_step {xss : List (List Int)} (h : topB xss = true) (l : List Int) : asF (asN xss) xss ++ l = asF (asN (shL xss)) (shL xss) ++ (topV xss :: l) := by
  rw [asN_step h, asF, List.append_assoc]; rfl

def amL (xss : List (List Int)) : List Int := if mxB xss then asL xss else []
theorem amL_len (xss : List (List Int)) : (amL xss).length ≤ 1048576 := by
  unfold amL
  split
  · rename_i h
    have := of_mx h
    rw [asL, asF_len, asN]; omega
  · simp

/-- what a call hands back that makes a list -/
def GotI (w : World) (ys : List Int) (ok : Bool) (e : Ending) (w' : World) : Prop :=
  ∃ a cap, e = .returned (.tuple #[.slice a ys.length cap, .bool ok]) ∧ OwnI w' w.heap.size (.slice a ys.length cap) ys ∧ Below w.heap.size w w'
theorem gotI_no {w w' : World} {ys : List Int} {ok : Bool} (h1 : ys = []) (h2 : ok = false) (hb : Below w.heap.size w w') : GotI w ys ok (.returned (.tuple #[.slice none 0 0, .bool false])) w' :=
  ⟨none, 0, by rw [h1, h2]; rfl, by rw [h1]; exact OwnI.nil _ _, hb⟩

def aooL (n : Int) (xs : List Int) : List Int := if isIv n xs then amL (moL n xs) else []
theorem aooL_len (n : Int) (xs : List Int) : (aooL n xs).length ≤ 1048576 := by
  unfold aooL
  split
  · exact amL_len _
  · simp

theorem orHas_any (s i : Int) (w : World) (h0 : 0 ≤ s) (h1 : s ≤ 9223372036854775807) (hi : 0 ≤ i) :
    Calls Try.prog 80 #[.int .i64 s, .int .i64 i] w fun e w' => e = .returned (.bool (hasB s i)) ∧ w = w' := by
  have H := Lib.hid (has_mod h0 h1 hi)
  go_enter Try.func80, Try.ntmps80
  go_wp2
  go_ret
  exact ⟨ret_bool H.out, rfl⟩

theorem ivRefuses_any (n : Int) (ad : Option Addr) (xs : List Int) (cap : Nat) (a b c d : Nat) (w : World) (hx : Rd w ad xs) (hr : RelP n xs) (ha : a < xs.length) (hc : c < xs.length) :
    Calls Try.prog 135 #[.agg #[.int .i64 n, .slice ad xs.length cap], .int .i64 a, .int .i64 b, .int .i64 c, .int .i64 d] w fun e w' => e = .returned (.bool (refB xs a b c d)) ∧ Below w.heap.size w w' := by
  have hx1 := hx.alloc (.cells #[.int .i64 n, .slice ad xs.length cap] 28)
  have hn : xs.length ≤ 10 := by have := hr.len; have := hr.n1; omega
  have pa := hr.pos a ha
  have sa : nth xs a ≤ 9223372036854775807 := by have := hr.small a ha; omega
  have pc := hr.pos c hc
  have sc : nth xs c ≤ 9223372036854775807 := by have := hr.small c hc; omega
  have b0 : (0 : Int) ≤ (b : Int) := by omega
  have d0 : (0 : Int) ≤ (d : Int) := by omega
  have a1 : (a : Int) < (xs.length : Int) := by omega
  have c1 : (c : Int) < (xs.length : Int) := by omega
  obtain ⟨bl, off, rfl, hbl, hca⟩ := hx1.cell a ha
  obtain ⟨b', off', e', hbl', hcc⟩ := hx1.cell c hc
  simp only [Option.some.injEq, Addr.mk.injEq, and_true] at e'
  obtain ⟨rfl, rfl⟩ := e'
  obtain ⟨b', off', e', hbl0, hca0⟩ := hx.cell a ha
  simp only [Option.some.injEq, Addr.mk.injEq, and_true] at e'
  obtain ⟨rfl, rfl⟩ := e'
  obtain ⟨b', off', e', hbl0, hcc0⟩ := hx.cell c hc
  simp only [Option.some.injEq, Addr.mk.injEq, and_true] at e'
  obtain ⟨rfl, rfl⟩ := e'
  cases h1 : hasB (nth xs a) b
  · have HF : Hid (refB xs a b c d = false) := by simp [Hid, refB, h1]
    go_enter Try.func135, Try.ntmps135
    go_wp2_with (go_at_call 80; refine (orHas_any _ _ _ (by assumption) (by assumption) (by assumption)).mono ?_; rintro e w' ⟨rfl, rfl⟩)
    go_ret
    exact ⟨ret_bool HF.out.symm, (by repeat (first | exact Below.refl _ _ | assumption | refine Below.alloc ?_ (by first | exact Nat.le_refl _ | (simp only [World.size_alloc, World.size_setCell, World.size_drew]; omega) | omega) _ | refine Below.setCell ?_ (by first | exact Nat.le_refl _ | (simp only [World.size_alloc, World.size_setCell, World.size_drew]; omega) | omega) _ | refine Below.drew ?_))⟩
  · cases h2 : hasB (nth xs c) d
    · have HF : Hid (refB xs a b c d = false) := by simp [Hid, refB, h2]
      go_enter Try.func135, Try.ntmps135
      go_wp2_with (go_at_call 80; refine (orHas_any _ _ _ (by assumption) (by assumption) (by assumption)).mono ?_; rintro e w' ⟨rfl, rfl⟩)
      go_ret
      exact ⟨ret_bool HF.out.symm, (by repeat (first | exact Below.refl _ _ | assumption | refine Below.alloc ?_ (by first | exact Nat.le_refl _ | (simp only [World.size_alloc, World.size_setCell, World.size_drew]; omega) | omega) _ | refine Below.setCell ?_ (by first | exact Nat.le_refl _ | (simp only [World.size_alloc, World.size_setCell, World.size_drew]; omega) | omega) _ | refine Below.drew ?_))⟩
    · cases h3 : hasB (nth xs c) b
      · have HF : Hid (refB xs a b c d = !hasB (nth xs a) d) := by simp [Hid, refB, h1, h2, h3]
        go_enter Try.func135, Try.ntmps135
        go_wp2_with (go_at_call 80; refine (orHas_any _ _ _ (by assumption) (by assumption) (by assumption)).mono ?_; rintro e w' ⟨rfl, rfl⟩)
        go_ret
        exact ⟨ret_bool HF.out.symm, (by repeat (first | exact Below.refl _ _ | assumption | refine Below.alloc ?_ (by first | exact Nat.le_refl _ | (simp only [World.size_alloc, World.size_setCell, World.size_drew]; omega) | omega) _ | refine Below.setCell ?_ (by first | exact Nat.le_refl _ | (simp only [World.size_alloc, World.size_setCell, World.size_drew]; omega) | omega) _ | refine Below.drew ?_))⟩
      · have HF : Hid (refB xs a b c d = false) := by simp [Hid, refB, h3]
        go_enter Try.func135, Try.ntmps135
        go_wp2_with (go_at_call 80; refine (orHas_any _ _ _ (by assumption) (by assumption) (by assumption)).mono ?_; rintro e w' ⟨rfl, rfl⟩)
        go_ret
        exact ⟨ret_bool HF.out.symm, (by repeat (first | exact Below.refl _ _ | assumption | refine Below.alloc ?_ (by first | exact Nat.le_refl _ | (simp only [World.size_alloc, World.size_setCell, World.size_drew]; omega) | omega) _ | refine Below.setCell ?_ (by first | exact Nat.le_refl _ | (simp only [World.size_alloc, World.size_setCell, World.size_drew]; omega) | omega) _ | refine Below.drew ?_))⟩

/-- nothing refuses ahead of the list k, l, m, o -/
def NoRef (xs : List Int) (k l m o : Nat) : Prop :=
  (∀ a, a < k → find1 (pairF xs a) xs.length = none) ∧ (∀ b, b < l → pairF xs k b = none) ∧ (∀ c, c < m → find1 (refF xs k l c) xs.length = none) ∧ ∀ d, d < o → refF xs k l m d = none
theorem NoRef.d {xs : List Int} {k l m o : Nat} (h : NoRef xs k l m o) (h1 : refB xs k l m o = false) : NoRef xs k l m (o+1) :=
  ⟨h.1, h.2.1, h.2.2.1, fun d hd => by
    by_cases e : d = o
    · rw [e, refF, h1]; rfl
    · exact h.2.2.2 d (by omega)⟩
theorem NoRef.c {xs : List Int} {k l m : Nat} (h : NoRef xs k l m xs.length) : NoRef xs k l (m+1) 0 :=
  ⟨h.1, h.2.1, fun c hc => by
    by_cases e : c = m
    · rw [e]; exact find1_none h.2.2.2
    · exact h.2.2.1 c (by omega), fun d hd => by omega⟩
theorem NoRef.b {xs : List Int} {k l : Nat} (h : NoRef xs k l xs.length 0) : NoRef xs k (l+1) 0 0 :=
  ⟨h.1, fun b hb => by
    by_cases e : b = l
    · rw [e, pairF_ref]; exact find1_none h.2.2.1
    · exact h.2.1 b (by omega), fun c hc => by omega, fun d hd => by omega⟩
theorem NoRef.a {xs : List Int} {k : Nat} (h : NoRef xs k xs.length 0 0) : NoRef xs (k+1) 0 0 0 :=
  ⟨fun a ha => by
    by_cases e : a = k
    · rw [e]; exact find1_none h.2.1
    · exact h.1 a (by omega), fun b hb => by omega, fun c hc => by omega, fun d hd => by omega⟩
theorem NoRef.no {xs : List Int} {l m o : Nat} (h : NoRef xs xs.length l m o) : twoF xs = none := find1_none h.1
theorem NoRef.yes {xs : List Int} {k l m o : Nat} (h : NoRef xs k l m o) (hk : k < xs.length) (hl : l < xs.length) (hm : m < xs.length) (ho : o < xs.length) (h1 : refB xs k l m o = true) :
    twoF xs = some [(k : Int), (l : Int), (m : Int), (o : Int)] :=
  find1_some hk (find1_some hl (by rw [pairF_ref]; exact find1_some hm (find1_some ho (by rw [refF, h1]; rfl) h.2.2.2) h.2.2.1) h.2.1) h.1
theorem ivTwoTwo_any (n : Int) (a : Option Addr) (xs : List Int) (cap : Nat) (w : World) (hx : Rd w a xs) (hp : RelP n xs) :
    Calls Try.prog 111 #[.agg #[.int .i64 n, .slice a xs.length cap]] w fun e w' => ∃ a' cap', e = .returned (.tuple #[.slice a' ((twoF xs).getD []).length cap', .bool (twoF xs).isSome]) ∧ OwnI w' w.heap.size (.slice a' ((twoF xs).getD []).length cap') ((twoF xs).getD []) ∧ Below w.heap.size w w' := by
  have hl10 : xs.length ≤ 10 := by have := hp.len; have := hp.n1; omega
  obtain rfl : n = (xs.length : Int) := hp.len.symm
  go_enter Try.func111, Try.ntmps111
  go_wp2_with fail
  go_loopw [4] (fun i' wr => ∃ k : Nat, k ≤ xs.length ∧ i' = .int .i64 k ∧ NoRef xs k 0 0 0 ∧ Below w.heap.size w wr ∧ Box2 wr w.heap.size (.int .i64 (xs.length : Int)) (.slice a xs.length cap)) (fun i' _ => xs.length - (intOf i').toNat)
  case atStart => exact ⟨0, Nat.zero_le _, rfl, ⟨fun c hc => by omega, fun b hb => by omega, fun b hb => by omega, fun b hb => by omega⟩, (by repeat (first | exact Below.refl _ _ | assumption | refine Below.alloc ?_ (by first | exact Nat.le_refl _ | (simp only [World.size_alloc, World.size_setCell, World.size_drew]; omega) | omega) _ | refine Below.setCell ?_ (by first | exact Nat.le_refl _ | (simp only [World.size_alloc, World.size_setCell, World.size_drew]; omega) | omega) _ | refine Below.drew ?_)), Box2.new w _ _ _⟩
  case round =>
    obtain ⟨k, hk, rfl, hall, hb, hB⟩ := hrel
    obtain ⟨wo, rfl⟩ : ∃ wo : World, wo = wr := ⟨_, rfl⟩
    have ⟨zr, cr, dr⟩ := hB
    have HA := Lib.hid hall
    clear hall
    by_cases hlt : k < xs.length
    · have k1 : (k : Int) < (xs.length : Int) := by omega
      go_wp2_with fail
      clear cr dr
      go_loopw [5] (fun i' wr => ∃ l : Nat, l ≤ xs.length ∧ i' = .int .i64 l ∧ NoRef xs k l 0 0 ∧ Below w.heap.size w wr ∧ Box2 wr w.heap.size (.int .i64 (xs.length : Int)) (.slice a xs.length cap)) (fun i' _ => xs.length - (intOf i').toNat)
      case atStart => exact ⟨0, Nat.zero_le _, rfl, HA.out, hb, hB⟩
      case round =>
        clear hb hB
        obtain ⟨l, hl, rfl, hall, hb, hB⟩ := hrel
        obtain ⟨wp, rfl⟩ : ∃ wp : World, wp = wr := ⟨_, rfl⟩
        have ⟨zr, cr, dr⟩ := hB
        have HL := Lib.hid hall
        clear hall
        by_cases hlt2 : l < xs.length
        · have l1 : (l : Int) < (xs.length : Int) := by omega
          go_wp2_with fail
          clear cr dr
          go_loopw [6] (fun i' wr => ∃ m : Nat, m ≤ xs.length ∧ i' = .int .i64 m ∧ NoRef xs k l m 0 ∧ Below w.heap.size w wr ∧ Box2 wr w.heap.size (.int .i64 (xs.length : Int)) (.slice a xs.length cap)) (fun i' _ => xs.length - (intOf i').toNat)
          case atStart => exact ⟨0, Nat.zero_le _, rfl, HL.out, hb, hB⟩
          case round =>
            clear hb hB
            obtain ⟨m, hm, rfl, hall, hb, hB⟩ := hrel
            obtain ⟨wq, rfl⟩ : ∃ wq : World, wq = wr := ⟨_, rfl⟩
            have ⟨zr, cr, dr⟩ := hB
            have HM := Lib.hid hall
            clear hall
            by_cases hlt3 : m < xs.length
            · have m1 : (m : Int) < (xs.length : Int) := by omega
              go_wp2_with fail
              clear cr dr
              go_loopw [7] (fun i' wr => ∃ o : Nat, o ≤ xs.length ∧ i' = .int .i64 o ∧ NoRef xs k l m o ∧ Below w.heap.size w wr ∧ Box2 wr w.heap.size (.int .i64 (xs.length : Int)) (.slice a xs.length cap)) (fun i' _ => xs.length - (intOf i').toNat)
              case atStart => exact ⟨0, Nat.zero_le _, rfl, HM.out, hb, hB⟩
              case round =>
                clear hb hB
                obtain ⟨o, ho, rfl, hall, hb, hB⟩ := hrel
                have ⟨zr, cr, dr⟩ := hB
                have HO := Lib.hid hall
                clear hall
                by_cases hlt4 : o < xs.length
                · have o1 : (o : Int) < (xs.length : Int) := by omega
                  cases hs : refB xs k l m o
                  · have hfin := Lib.hid (HO.out.d hs)
                    have HS := Lib.hid hs
                    clear hs
                    go_wp2_with fail
                    refine (ivRefuses_any _ _ _ _ _ _ _ _ _ (hx.below hb) hp hlt hlt3).mono ?_
                    rw [HS.out]
                    rintro e w3 ⟨rfl, hb3⟩
                    have B3 := hB.below hb3
                    have bw3 := hb.trans (hb3.mono hb.size)
                    go_wp2_with fail
                    go_roundw
                    case rel => exact ⟨o + 1, by omega, by go_num, hfin.out, bw3, B3⟩
                    case measure => simp [intOf]; omega
                  · have ht := HO.out.yes hlt hlt2 hlt3 hlt4 hs
                    have HT := Lib.hid ht
                    have HS := Lib.hid hs
                    clear hs ht
                    go_wp2_with fail
                    refine (ivRefuses_any _ _ _ _ _ _ _ _ _ (hx.below hb) hp hlt hlt3).mono ?_
                    rw [HS.out]
                    rintro e w3 ⟨rfl, hb3⟩
                    have bw3 := hb.trans (hb3.mono hb.size)
                    go_wp2_with fail
                    refine bodyPost_ret (v := .tuple #[.slice (some ⟨w3.heap.size, 0, none⟩) 4 4, .bool true]) (by simp [results, Try.results111, go_sem]) rfl ?_
                    refine ⟨some ⟨w3.heap.size, 0, none⟩, 4, by rw [HT.out]; rfl, ?_, bw3.alloc bw3.size _⟩
                    rw [HT.out]
                    exact (OwnI.new w3 [(k : Int), (l : Int), (m : Int), (o : Int)] (by simp)).mono bw3.size
                · obtain rfl : o = xs.length := by omega
                  have hfin := Lib.hid HO.out.c
                  go_wp2_with fail
                  go_roundw
                  case rel => exact ⟨m + 1, by omega, by go_num, hfin.out, hb, hB⟩
                  case measure => simp [intOf]; omega
            · obtain rfl : m = xs.length := by omega
              have hfin := Lib.hid HM.out.b
              go_wp2_with fail
              go_roundw
              case rel => exact ⟨l + 1, by omega, by go_num, hfin.out, hb, hB⟩
              case measure => simp [intOf]; omega
        · obtain rfl : l = xs.length := by omega
          have hfin := Lib.hid HL.out.a
          go_wp2_with fail
          go_roundw
          case rel => exact ⟨k + 1, by omega, by go_num, hfin.out, hb, hB⟩
          case measure => simp [intOf]; omega
    · obtain rfl : k = xs.length := by omega
      have ht := HA.out.no
      have HT := Lib.hid ht
      clear ht
      go_wp2_with fail
      refine bodyPost_ret (v := .tuple #[.slice none 0 0, .bool false]) (by simp [results, Try.results111, go_sem]) rfl ?_
      exact ⟨none, 0, by rw [HT.out]; rfl, by rw [HT.out]; exact OwnI.nil _ _, hb⟩

theorem ivIs_any (n : Int) (a : Option Addr) (xs : List Int) (cap : Nat) (w : World) (hx : Rd w a xs) (hp : RelP n xs) :
    Calls Try.prog 87 #[.agg #[.int .i64 n, .slice a xs.length cap]] w fun e w' => e = .returned (.bool (!(twoF xs).isSome)) ∧ Below w.heap.size w w' := by
  have hx1 := hx.alloc (.cells #[.int .i64 n, .slice a xs.length cap] 28)
  go_enter Try.func87, Try.ntmps87
  go_wp2_with fail
  refine (ivTwoTwo_any _ _ _ _ _ hx1 hp).mono ?_
  rintro e w2 ⟨a2, cap2, rfl, ho2, hb2⟩
  clear ho2
  go_wp2_with fail
  go_ret
  exact ⟨ret_bool (by cases twoF xs <;> rfl), Below.trans (by repeat (first | exact Below.refl _ _ | assumption | refine Below.alloc ?_ (by first | exact Nat.le_refl _ | (simp only [World.size_alloc, World.size_setCell, World.size_drew]; omega) | omega) _ | refine Below.setCell ?_ (by first | exact Nat.le_refl _ | (simp only [World.size_alloc, World.size_setCell, World.size_drew]; omega) | omega) _ | refine Below.drew ?_)) (hb2.mono (by first | (simp only [World.size_alloc, World.size_setCell, World.size_drew]; omega) | omega))⟩

theorem orList_any (s : Int) (w : World) (h0 : 0 ≤ s) (h1 : s < 1024) :
    Calls Try.prog 81 #[.int .i64 s] w fun e w' => ∃ a cap, e = .returned (.slice a (elems s.toNat).length cap) ∧ OwnI w' w.heap.size (.slice a (elems s.toNat).length cap) (elems s.toNat) ∧ Below w.heap.size w w' := by
  obtain ⟨S, rfl⟩ := Int.eq_ofNat_of_zero_le h0
  have hS : S < 1024 := by omega
  obtain ⟨i0, hi, hz0, hz1, hz2⟩ := info_parts infoInt
  have hsh : ∀ k : Nat, (S : Int) / 2 ^ min k 64 = ((S >>> k : Nat) : Int) := fun k => shr_nat S k (by omega)
  have HSH := Lib.hid hsh
  clear hsh
  go_enter Try.func81, Try.ntmps81
  go_wp2_with fail
  go_loopw [3, 4] (fun v i wr => ∃ k : Nat, k ≤ 10 ∧ i = .int .i64 k ∧ wr.ownsRow w.heap.size 3 1 v (elemsTo S k).length ((elemsTo S k).map (Value.int .i64)) ∧ Below w.heap.size w wr) (fun _ i _ => 10 - (intOf i).toNat)
  case atStart => exact ⟨0, by omega, rfl, by simpa [elemsTo] using World.ownsRow_nil _ _ _ _, Below.refl _ _⟩
  case round =>
    obtain ⟨k, hk, rfl, hown, hb⟩ := hrel
    have hln := elemsTo_len S k
    have hsz := hb.size
    have hq := HSH.out k
    rw [show min k 64 = k from by omega] at hq
    by_cases hz : S >>> k = 0
    · have ht : ¬ (0 : Int) < (S : Int) / 2 ^ k := by rw [hq, hz]; omega
      have HZ := Lib.hid hz
      clear hq hz
      go_wp2_with fail
      go_ret
      have e := elems_at HZ.out hk
      rw [e] at hown
      obtain ⟨a, cap, rfl⟩ := OwnI.form hown
      exact ⟨a, cap, rfl, hown, hb⟩
    · have ht : (0 : Int) < (S : Int) / 2 ^ k := by rw [hq]; exact Int.natCast_pos.2 (Nat.pos_of_ne_zero hz)
      have hk9 : k < 10 := by
        rcases Nat.lt_or_ge k 10 with h | h
        · exact h
        · obtain rfl : k = 10 := by omega
          exact absurd (by rw [Nat.shiftRight_eq_div_pow]; exact Nat.div_eq_of_lt (by omega)) hz
      clear hq hz
      have hhas : hasB (S : Int) (k : Int) = S.testBit k := rfl
      cases hin : S.testBit k
      · rw [hin] at hhas
        go_wp2_with (go_at_call 80; refine (orHas_any _ _ _ (by omega) (by omega) (by omega)).mono ?_; rintro e w' ⟨rfl, rfl⟩)
        go_roundw
        case rel => exact ⟨k + 1, by omega, by go_num, by simpa [elemsTo, hin] using hown, hb⟩
        case measure => simp [intOf]; omega
      · rw [hin] at hhas
        go_wp2_with (first | (go_at_call 80; refine (orHas_any _ _ _ (by omega) (by omega) (by omega)).mono ?_; rintro e w' ⟨rfl, rfl⟩) | (at_builtin; refine wpList_append_own _ rfl _ _ 22 rfl w.heap.size 3 i0 (.int .i64 0) 1 8 Try.underlying22 hi hz0 hz1 hz2 rfl (by decide) _ _ _ rfl (hown.alloc _) ⟨wr.heap.size, 0, none⟩ 1 1 [.int .i64 k] rfl rfl ?c1 ?c2 ?c3 ?c4 ?c5 ?_))
        case c1 =>
          intro j u hj
          match j, hj with
          | 0, hj => simp at hj; subst hj; simp [Addr.add]
        case c2 => intro u hu; simp at hu; subst hu; rfl
        case c3 => unfold maxLen; omega
        case c4 => omega
        case c5 => simp; omega
        · intro v' w1 hown' hgrow _
          have hlt := World.ownsRow.lt hown
          have hb1 : Below w.heap.size w w1 := (hb.alloc hsz _).grown hgrow (by simp; omega) (fun b e => (hlt b e).1)
          have HO := Lib.hid hown'
          clear hown' hgrow hown
          go_wp2_with fail
          go_roundw
          case rel => exact ⟨k + 1, by omega, by go_num, by simpa [elemsTo, hin] using HO.out, hb1⟩
          case measure => simp [intOf]; omega

theorem l1In_any (n lo hi : Int) (w : World) :
    Calls Try.prog 70 #[.int .i64 n, .int .i64 lo, .int .i64 hi] w fun e w' => e = .returned (.bool (inB n lo hi)) ∧ w = w' := by
  go_enter Try.func70, Try.ntmps70
  go_wp2
  all_goals (go_ret; exact ⟨ret_bool (by simp [inB]; try omega), rfl⟩)
theorem l1In_is {n lo hi : Int} {b : Bool} (h : inB n lo hi = b) (w : World) (m : Nat) :
    Calls Try.prog 70 #[.int .i64 n, .int .i64 lo, .int .i64 hi] (w.drewN m) fun e w' => e = .returned (.bool b) ∧ ∃ k, w' = w.drewN k :=
  Calls.quiet_of_same ((l1In_any n lo hi (w.drewN m)).mono (fun e w' hh => ⟨by rw [← h]; exact hh.1, hh.2.symm⟩))

theorem l1All_any (a : Option Addr) (xs : List Int) (cap : Nat) (lo hi : Int) (w : World) (hx : Rd w a xs) :
    Calls Try.prog 108 #[.slice a xs.length cap, .int .i64 lo, .int .i64 hi] w fun e w' => e = .returned (.bool (allB xs lo hi)) ∧ w = w' := by
  have hlen := hx.len
  go_enter Try.func108, Try.ntmps108
  go_wp2_with fail
  go_loop [11] (fun i => ∃ k : Nat, k ≤ xs.length ∧ i = .int .i64 k ∧ allB (xs.take k) lo hi = true) (fun i => xs.length - (intOf i).toNat)
  case atStart => exact ⟨0, Nat.zero_le _, rfl, rfl⟩
  case round =>
    obtain ⟨k, hk, rfl, hall⟩ := hrel
    by_cases hlt : k < xs.length
    · obtain ⟨b, off, rfl, hbl, hc⟩ := hx.cell k hlt
      cases hin : inB (nth xs k) lo hi
      · have hf := Lib.hid (allB_false hlt hin)
        go_wp2_with (go_at_call 70; refine (l1In_any _ _ _ _).mono ?_; rintro e w' ⟨rfl, rfl⟩)
        go_ret
        exact ⟨ret_bool hf.out.symm, rfl⟩
      · go_wp2_with (go_at_call 70; refine (l1In_any _ _ _ _).mono ?_; rintro e w' ⟨rfl, rfl⟩)
        go_round
        case rel => exact ⟨k + 1, by omega, by go_num, by rw [allB_take _ _ _ _ hlt, hall, hin]; rfl⟩
        case measure => simp [intOf]; omega
    · go_wp2_with fail
      go_ret
      exact ⟨ret_bool (by rw [← hall, List.take_of_length_le (by omega)]), rfl⟩
theorem l1All_is {a : Option Addr} {xs : List Int} {cap : Nat} {lo hi : Int} {b : Bool} {w : World} (hx : Rd w a xs) (h : allB xs lo hi = b) (m : Nat) :
    Calls Try.prog 108 #[.slice a xs.length cap, .int .i64 lo, .int .i64 hi] (w.drewN m) fun e w' => e = .returned (.bool b) ∧ ∃ k, w' = w.drewN k :=
  Calls.quiet_of_same ((l1All_any a xs cap lo hi (w.drewN m) (hx.below (Joins.below_draws _ _ _))).mono (fun e w' hh => ⟨by rw [← h]; exact hh.1, hh.2.symm⟩))

theorem orRelation_any (n : Int) (a : Option Addr) (xs : List Int) (cap : Nat) (w : World) (hx : Rd w a xs) :
    Calls Try.prog 79 #[.agg #[.int .i64 n, .slice a xs.length cap]] w fun e w' => e = .returned (.bool (relB n xs)) ∧ Below w.heap.size w w' := by
  have hx1 := hx.alloc (.cells #[.int .i64 n, .slice a xs.length cap] 28)
  cases h1 : inB n 0 10
  · have HR : Hid (relB n xs = false) := by simp [Hid, relB, h1]
    go_enter Try.func79, Try.ntmps79
    go_wp2_with fail
    go_quiet ((go_at_call 70; exact l1In_is h1 _ _))
    go_wp2_with fail
    go_ret
    exact ⟨ret_bool HR.out.symm, (Below.refl _ _).alloc (Nat.le_refl _) _ |>.trans (Joins.below_draws _ _ _)⟩
  · have hn := inB_iff.1 h1
    cases h2 : ((xs.length : Int) == n)
    · have HR : Hid (relB n xs = false) := by
        have : ¬ (xs.length : Int) = n := by simpa using h2
        simp [Hid, relB, h1, this]
      go_enter Try.func79, Try.ntmps79
      go_wp2_with fail
      go_quiet ((go_at_call 70; exact l1In_is h1 _ _))
      go_wp2_with fail
      go_ret
      exact ⟨ret_bool HR.out.symm, (Below.refl _ _).alloc (Nat.le_refl _) _ |>.trans (Joins.below_draws _ _ _)⟩
    · cases h3 : allB xs 0 (wrap64 (wrap64 (2 ^ n.toNat) - 1))
      all_goals
        have HR : Hid (relB n xs = allB xs 0 (wrap64 (wrap64 (2 ^ n.toNat) - 1))) := by
          have : (xs.length : Int) = n := by simpa using h2
          simp only [Hid, relB, h1, this, full_eq hn.1 hn.2]
          simp
        have H3 := Lib.hid h3
        clear h3
        go_enter Try.func79, Try.ntmps79
        go_wp2_with fail
        go_quiet ((first | (go_at_call 70; exact l1In_is h1 _ _) | (go_at_call 108; exact l1All_is hx1 H3.out _)))
        go_wp2_with fail
        go_ret
        exact ⟨ret_bool (by rw [HR.out, H3.out]), (Below.refl _ _).alloc (Nat.le_refl _) _ |>.trans (Joins.below_draws _ _ _)⟩

theorem elem_at {n : Int} {xs : List Int} (hp : RelP n xs) {k : Nat} (hk : k < xs.length) {m : Nat} (hm : m < (elems (nth xs k).toNat).length) :
    ∃ i : Nat, i < xs.length ∧ hasB (nth xs k) i = true ∧ nth (elems (nth xs k).toNat) m = (i : Int) := by
  have h1 := hp.small k hk
  have h0 := hp.pos k hk
  obtain ⟨i, hb, e⟩ := (mem_elems (by omega)).1 (nth_mem hm)
  exact ⟨i, has_lt hp hk hb, hb, e⟩
theorem at_elem {n : Int} {xs : List Int} (hp : RelP n xs) {k : Nat} (hk : k < xs.length) {j : Nat} (h : hasB (nth xs k) j = true) :
    ∃ m, m < (elems (nth xs k).toNat).length ∧ nth (elems (nth xs k).toNat) m = (j : Int) := by
  have h1 := hp.small k hk
  have h0 := hp.pos k hk
  have : (j : Int) ∈ elems (nth xs k).toNat := (mem_elems (by omega)).2 ⟨j, h, rfl⟩
  obtain ⟨m, hm, e⟩ := mem_nth this
  exact ⟨m, hm, e⟩
theorem orGood_any (n : Int) (a : Option Addr) (xs : List Int) (cap : Nat) (w : World) (hx : Rd w a xs) :
    Calls Try.prog 51 #[.agg #[.int .i64 n, .slice a xs.length cap]] w fun e w' => e = .returned (.bool (ordB n xs)) ∧ Below w.heap.size w w' := by
  have hx1 := hx.alloc (.cells #[.int .i64 n, .slice a xs.length cap] 28)
  have hlen := hx.len
  cases hr : relB n xs
  · have HR : Hid (ordB n xs = false) := by simp [Hid, ordB, hr]
    go_enter Try.func51, Try.ntmps51
    go_wp2_with fail
    refine (orRelation_any _ _ _ _ _ hx1).mono ?_
    rintro e w1 ⟨rfl, hb1⟩
    go_wp2_with fail
    go_ret
    exact ⟨ret_bool HR.out.symm, Below.trans (by repeat (first | exact Below.refl _ _ | assumption | refine Below.alloc ?_ (by first | exact Nat.le_refl _ | (simp only [World.size_alloc, World.size_setCell, World.size_drew]; omega) | omega) _ | refine Below.setCell ?_ (by first | exact Nat.le_refl _ | (simp only [World.size_alloc, World.size_setCell, World.size_drew]; omega) | omega) _ | refine Below.drew ?_)) (hb1.mono (by first | (simp only [World.size_alloc, World.size_setCell, World.size_drew]; omega) | omega))⟩
  · have hp := relB_p hr
    go_enter Try.func51, Try.ntmps51
    go_wp2_with fail
    refine (orRelation_any _ _ _ _ _ hx1).mono ?_
    rintro e w1 ⟨rfl, hb1⟩
    have B1 := (Box2.new w _ _ _).below hb1
    have ⟨z1, c1, d1⟩ := B1
    have bw1 : Below w.heap.size w w1 := Below.trans (by repeat (first | exact Below.refl _ _ | assumption | refine Below.alloc ?_ (by first | exact Nat.le_refl _ | (simp only [World.size_alloc, World.size_setCell, World.size_drew]; omega) | omega) _ | refine Below.setCell ?_ (by first | exact Nat.le_refl _ | (simp only [World.size_alloc, World.size_setCell, World.size_drew]; omega) | omega) _ | refine Below.drew ?_)) (hb1.mono (by first | (simp only [World.size_alloc, World.size_setCell, World.size_drew]; omega) | omega))
    have HR := Lib.hid hr
    clear hb1
    go_wp2_with fail
    clear hr
    go_loopw [13] (fun i wr => ∃ k : Nat, k ≤ xs.length ∧ i = .int .i64 k ∧ (∀ j, j < k → okAtB xs j = true) ∧ Below w1.heap.size w1 wr) (fun i _ => xs.length - (intOf i).toNat)
    case atStart => exact ⟨0, Nat.zero_le _, rfl, fun j hj => by omega, Below.refl _ _⟩
    case round =>
      obtain ⟨k, hk, rfl, hall, hb⟩ := hrel
      have Br := B1.below hb
      have ⟨zr, cr, dr⟩ := Br
      have bwr := bw1.trans (hb.mono bw1.size)
      have HA := Lib.hid hall
      clear hall c1 d1
      by_cases hlt : k < xs.length
      · obtain ⟨b, off, rfl, hbl, hc⟩ := (hx.below bwr).cell k hlt
        have hpk := hp.pos k hlt
        have hsk := hp.small k hlt
        have hsk' : nth xs k ≤ 9223372036854775807 := by omega
        cases hin : hasB (nth xs k) k
        · go_wp2_with fail
          refine (orHas_any _ _ _ hpk hsk' (by omega)).mono ?_
          rintro e w' ⟨rfl, rfl⟩
          go_wp2_with fail
          refine (orList_any _ _ hpk hsk).mono ?_
          rintro e w2 ⟨a2, cap2, rfl, ho2, hb2⟩
          have ⟨z2, c2, d2⟩ := Br.below hb2
          have bw2 := bwr.trans (hb2.mono bwr.size)
          have hx2 := hx.below bw2
          have hr2 := ho2.rd
          have bk2 := hb.trans (hb2.mono hb.size)
          have hel := elems_len (nth xs k).toNat
          have HI := Lib.hid hin
          clear hin cr dr hc
          obtain ⟨es, hes⟩ : ∃ es, es = elems (nth xs k).toNat := ⟨_, rfl⟩
          rw [← hes] at ho2 hr2 hel
          have HES := Lib.hid hes
          rw [← hes]
          clear hes ho2 hb2
          go_wp2_with fail
          go_loop [24] (fun i => ∃ j : Nat, j ≤ es.length ∧ i = .int .i64 j ∧ (∀ m, m < j → sub (nth xs (nth es m).toNat).toNat (nth xs k).toNat = 0)) (fun i => es.length - (intOf i).toNat)
          case atStart => exact ⟨0, Nat.zero_le _, rfl, fun m hm => by omega⟩
          case round =>
            obtain ⟨j, hj, rfl, hin2⟩ := hrel
            have HIN := Lib.hid hin2
            clear hin2
            by_cases hjl : j < es.length
            · obtain ⟨b2, off2, rfl, hbl2, hc2⟩ := hr2.cell j hjl
              obtain ⟨i, hil, hib, hie⟩ : ∃ i : Nat, i < xs.length ∧ hasB (nth xs k) i = true ∧ nth es j = (i : Int) := by
                have := elem_at hp hlt (m := j) (by rw [← HES.out]; exact hjl)
                rw [← HES.out] at this
                exact this
              obtain ⟨b3, off3, e3, hbl3, hc3⟩ := hx2.cell i hil
              simp only [Option.some.injEq, Addr.mk.injEq, and_true] at e3
              obtain ⟨rfl, rfl⟩ := e3
              have hpi := hp.pos i hil
              have hsi := hp.small i hil
              have hsub := sub_i (a := nth xs i) (b := nth xs k) hpi (by omega) hpk (by omega)
              have HB := Lib.hid hib
              have HE := Lib.hid hie
              rw [hie] at hc2
              clear hib hie
              by_cases hz : sub (nth xs i).toNat (nth xs k).toNat = 0
              · have hne : (bits BinOp.andNot IntKind.i64 (nth xs i) (nth xs k) != 0) = false := by rw [hsub, hz]; rfl
                have HZ := Lib.hid hz
                clear hz hsub
                go_wp2_with fail
                go_round
                case rel =>
                  refine ⟨j + 1, by omega, by go_num, fun m hm => ?_⟩
                  by_cases e : m = j
                  · rw [e, HE.out, Int.toNat_natCast]; exact HZ.out
                  · exact HIN.out m (by omega)
                case measure => simp [intOf]; omega
              · have hne : (bits BinOp.andNot IntKind.i64 (nth xs i) (nth xs k) != 0) = true := by rw [hsub]; simp; omega
                have HN := Lib.hid (ordB_no (n := n) hlt (okAtB_sub hil HB.out hz))
                clear hz hsub
                go_wp2_with fail
                go_ret
                exact ⟨ret_bool HN.out.symm, bw2⟩
            · obtain rfl : j = es.length := by omega
              have hok : okAtB xs k = true := by
                rw [okAtB_iff]
                refine ⟨HI.out, fun j hj hbj => ?_⟩
                obtain ⟨m, hm, e⟩ := at_elem hp hlt hbj
                rw [← HES.out] at hm e
                have := HIN.out m hm
                rwa [e, Int.toNat_natCast] at this
              have HK := Lib.hid hok
              clear hok
              go_wp2_with fail
              go_roundw
              case rel =>
                refine ⟨k + 1, by omega, by go_num, fun j hj => ?_, bk2⟩
                by_cases e : j = k
                · rw [e]; exact HK.out
                · exact HA.out j (by omega)
              case measure => simp [intOf]; omega
        · have HN := Lib.hid (ordB_no (n := n) hlt (okAtB_has hin))
          go_wp2_with fail
          refine (orHas_any _ _ _ hpk hsk' (by omega)).mono ?_
          rintro e w' ⟨rfl, rfl⟩
          go_wp2_with fail
          go_ret
          exact ⟨ret_bool HN.out.symm, bwr⟩
      · obtain rfl : k = xs.length := by omega
        go_wp2_with fail
        go_ret
        exact ⟨ret_bool (ordB_iff.2 ⟨HR.out, HA.out⟩).symm, bwr⟩

theorem ivGoodOrder_any (n : Int) (a : Option Addr) (xs : List Int) (cap : Nat) (w : World) (hx : Rd w a xs) :
    Calls Try.prog 57 #[.agg #[.int .i64 n, .slice a xs.length cap]] w fun e w' => e = .returned (.bool (isIv n xs)) ∧ Below w.heap.size w w' := by
  have hx1 := hx.alloc (.cells #[.int .i64 n, .slice a xs.length cap] 28)
  cases hr : ordB n xs
  · have H1 : Hid (isIv n xs = false) := by simp [Hid, isIv, hr]
    go_enter Try.func57, Try.ntmps57
    go_wp2_with fail
    refine (orGood_any _ _ _ _ _ hx1).mono ?_
    rw [hr]
    rintro e w1 ⟨rfl, hb1⟩
    have bw1 : Below w.heap.size w w1 := Below.trans (by repeat (first | exact Below.refl _ _ | assumption | refine Below.alloc ?_ (by first | exact Nat.le_refl _ | (simp only [World.size_alloc, World.size_setCell, World.size_drew]; omega) | omega) _ | refine Below.setCell ?_ (by first | exact Nat.le_refl _ | (simp only [World.size_alloc, World.size_setCell, World.size_drew]; omega) | omega) _ | refine Below.drew ?_)) (hb1.mono (by first | (simp only [World.size_alloc, World.size_setCell, World.size_drew]; omega) | omega))
    go_wp2_with fail
    go_ret
    exact ⟨ret_bool H1.out.symm, bw1⟩
  · have hp := ord_rel hr
    have H1 : Hid (isIv n xs = !(twoF xs).isSome) := by simp [Hid, isIv, hr]
    go_enter Try.func57, Try.ntmps57
    go_wp2_with fail
    refine (orGood_any _ _ _ _ _ hx1).mono ?_
    rw [hr]
    rintro e w1 ⟨rfl, hb1⟩
    have A1 : Box2 w1 w.heap.size (.int .i64 n) (.slice a xs.length cap) := (Box2.new w _ _ _).below hb1
    have bw1 : Below w.heap.size w w1 := Below.trans (by repeat (first | exact Below.refl _ _ | assumption | refine Below.alloc ?_ (by first | exact Nat.le_refl _ | (simp only [World.size_alloc, World.size_setCell, World.size_drew]; omega) | omega) _ | refine Below.setCell ?_ (by first | exact Nat.le_refl _ | (simp only [World.size_alloc, World.size_setCell, World.size_drew]; omega) | omega) _ | refine Below.drew ?_)) (hb1.mono (by first | (simp only [World.size_alloc, World.size_setCell, World.size_drew]; omega) | omega))
    have ⟨zA, cA, dA⟩ := A1
    clear hb1 hr
    go_wp2_with fail
    refine (ivIs_any _ _ _ _ _ (hx.below bw1) hp).mono ?_
    rintro e w2 ⟨rfl, hb2⟩
    go_wp2_with fail
    go_ret
    exact ⟨ret_bool (by rw [H1.out]; cases twoF xs <;> rfl), bw1.trans (hb2.mono bw1.size)⟩

theorem wpList_append_none {P : Program} {w : World} {ops : Array Oper} {rest : List Oper} {o : Oper} {a : Act} {Q : Exit → Act → World → Prop} (hgd : o.guard = none) (s x : Operand) (t : TypeId)
    (ho : o.op = .call { callee := .builtin .append, args := #[s, x], argTypes := #[t, t] })
    (base : Nat) (e : TypeId) (i : TypeInfo) (size : Nat) (ht : P.underlying t = some (.slice e)) (hi : P.info? e = some i)
    (v : Value) (n c : Nat) (xs : List Value) (hs : a.eval s = v) (hown : w.ownsRow base e size v n xs) (hx : a.eval x = .slice none 0 c)
    (h : wpList P ops Q rest (a.put o.dst v) w) : wpList P ops Q (o :: rest) a w := by
  refine wpList_plain hgd fun K hK => ?_
  have hrun : (Builtin.append_ #[t, t] o.type #[v, .slice none 0 c]).run P w = .ok v w := by
    rcases hown.2 with ⟨rfl, rfl⟩ | ⟨g, cap, cur, rfl, _, _, hnc, _⟩
    · simp [Builtin.append_, run_underlying ht, sizeOf, typeInfo, hi, Builtin.lenOf, Builtin.firstCells]
    · simp [Builtin.append_, run_underlying ht, sizeOf, typeInfo, hi, Builtin.lenOf, Builtin.firstCells, hnc, storeCells]
  unfold Oper.wp
  simp [execOp, ho, resolve, invoke, builtin, hs, hx, hrun, Result.andThen]
  exact hK _ _ h
theorem rd_news {w : World} {ad : Addr} {xs : List Int} (hx : Rd w (some ad) xs) : ∀ j u, (xs.map (Value.int .i64))[j]? = some u → w.cell? (ad.add j) = some u := by
  intro j u hj
  rw [List.getElem?_map, Option.map_eq_some_iff] at hj
  obtain ⟨x, hx1, rfl⟩ := hj
  obtain ⟨hlt, e⟩ := List.getElem?_eq_some_iff.1 hx1
  obtain ⟨b, off, e1, _, hc⟩ := hx.cell j hlt
  simp only [Option.some.injEq] at e1
  subst e1
  rw [Addr.add_lit, hc, nth_get xs j hlt, e]
theorem ints_one (xs : List Int) : ∀ u ∈ xs.map (Value.int .i64), u.oneCell' = true := by
  intro u hu
  obtain ⟨x, _, rfl⟩ := List.mem_map.1 hu
  rfl

theorem Rd.drop {w : World} {ad : Addr} {xs : List Int} (h : Rd w (some ad) xs) (k : Nat) : Rd w (some (ad.add k)) (xs.drop k) :=
  ⟨Nat.le_trans (by rw [List.length_drop]; omega) h.len, fun j hj => by
    have hj' : k + j < xs.length := by rw [List.length_drop] at hj; omega
    obtain ⟨b, off, e, hl, hc⟩ := h.cell (k + j) hj'
    simp only [Option.some.injEq] at e
    subst e
    refine ⟨b, off + k, by rw [Addr.add_lit], hl, ?_⟩
    rw [Nat.add_assoc, hc]
    simp [nth, List.getD_eq_getElem?_getD, List.getElem?_drop]⟩

theorem putL_at {l : List Int} {x : Int} (h : ¬(putK l x < l.length ∧ nth l (putK l x) = x)) : putL l x = l.take (putK l x) ++ [x] ++ l.drop (putK l x) := by
  rw [putL, if_neg h]
set_option maxRecDepth 100000 in
theorem l1Put_any (a : Option Addr) (l : List Int) (cap : Nat) (x : Int) (B : Nat) (w : World) (ho : OwnI w B (.slice a l.length cap) l) (hl : l.length ≤ 1048576) (hB : B ≤ w.heap.size) :
    Calls Try.prog 112 #[.slice a l.length cap, .int .i64 x] w fun e w' => ∃ a' cap', e = .returned (.slice a' (putL l x).length cap') ∧ OwnI w' B (.slice a' (putL l x).length cap') (putL l x) ∧ Below w.heap.size w w' := by
  obtain ⟨i0, hi, hz0, hz1, hz2⟩ := info_parts infoInt
  have hcap := ho.capLe
  have hx := ho.rd
  have hkl := putK_le l x
  have hK1 := fun j (h : j < putK l x) => putK_lt l x j h
  have hK2 := putK_ge l x
  have hP1 : (putK l x < l.length ∧ nth l (putK l x) = x) → putL l x = l := fun he => by rw [putL, if_pos he]
  have hP2 := putL_at (l := l) (x := x)
  generalize putK l x = K at *
  generalize putL l x = L at *
  have HK1 := Lib.hid hK1
  have HK2 := Lib.hid hK2
  have HP1 := Lib.hid hP1
  have HP2 := Lib.hid hP2
  have hb0 : Below w.heap.size w w := Below.refl _ _
  clear hK1 hK2 hP1 hP2
  go_enter Try.func112, Try.ntmps112
  go_wp2_with fail
  go_loop [5] (fun i => ∃ k : Nat, k ≤ K ∧ i = .int .i64 k) (fun i => K - (intOf i).toNat)
  case atStart => exact ⟨0, Nat.zero_le _, rfl⟩
  case round =>
    obtain ⟨k, hk, rfl⟩ := hrel
    by_cases hlt : k < K
    · have hkl2 : k < l.length := by omega
      have hkl3 : (k : Int) < (l.length : Int) := by omega
      obtain ⟨b, off, rfl, hbl, hc⟩ := hx.cell k hkl2
      have h1 := HK1.out k hlt
      go_wp2_with fail
      go_round
      case rel => exact ⟨k + 1, by omega, by go_num⟩
      case measure => simp [intOf]; omega
    · obtain rfl : k = K := by omega
      clear hlt hk
      by_cases he : k < l.length ∧ nth l k = x
      · have hpl := he.1
        have hge : ¬ nth l k < x := by rw [he.2]; omega
        have hq : (nth l k == x) = true := by simp [he.2]
        have HP := Lib.hid (HP1.out he)
        obtain ⟨b, off, rfl, hbl, hc⟩ := hx.cell _ hpl
        clear he
        go_wp2_with fail
        refine bodyPost_ret (v := .slice (some ⟨b, off, none⟩) l.length cap) (by simp [results, Try.results112, go_sem]) rfl ?_
        exact ⟨some ⟨b, off, none⟩, cap, by rw [HP.out], by rw [HP.out]; exact ho, hb0⟩
      · have HP := Lib.hid (HP2.out he)
        rcases ho.2 with ⟨e0, h0⟩ | ⟨g, cap', cur, e0, hbg, hgg, hn, hm, hs, ht⟩
        · simp only [Value.slice.injEq] at e0
          obtain ⟨rfl, -, rfl⟩ := e0
          obtain rfl : l = [] := List.length_eq_zero_iff.1 h0
          have hown0 : (w.alloc (.cells #[] 3)).ownsRow w.heap.size 3 1 (.slice (some ⟨w.heap.size, 0, none⟩) 0 0) 0 [] := World.ownsRow_lit w #[] 0 (Nat.le_refl _) (by simp [maxLen]) (by simp)
          obtain rfl : k = 0 := by simpa using hkl
          have HLL := Lib.hid (show L = [x] by rw [HP.out]; rfl)
          have Hown0 := Lib.hid hown0
          clear he hown0
          go_wp2_with (first | (at_builtin; refine wpList_append_own _ rfl _ _ 22 rfl w.heap.size 3 i0 (.int .i64 0) 1 8 Try.underlying22 hi hz0 hz1 hz2 rfl (by decide) (.slice (some ⟨w.heap.size, 0, none⟩) 0 0) 0 [] rfl (Hown0.out.alloc _) ⟨w.heap.size + 1, 0, none⟩ 1 1 [.int .i64 x] rfl rfl (by have h := cell_one_new (w.alloc (.cells #[] 3)) (.int .i64 x) 3; simp only [World.size_alloc] at h; exact h) (by intro u hu; simp at hu; subst hu; rfl) (by unfold maxLen; omega) (by omega) (by simp; omega) ?_) | (at_builtin; refine wpList_append_none rfl _ _ 22 rfl w.heap.size 3 i0 1 Try.underlying22 hi _ 0 _ [] rfl Hown0.out rfl ?_))
          intro v2 w2 ho2 hg2 _
          have hb2 : Below w.heap.size w w2 := Below.grown (w := (w.alloc (.cells #[] 3)).alloc (.cells #[.int .i64 x] 3)) (by repeat (first | exact Below.refl _ _ | assumption | refine Below.alloc ?_ (by first | exact Nat.le_refl _ | (simp only [World.size_alloc, World.size_setCell, World.size_drew]; omega) | omega) _ | refine Below.setCell ?_ (by first | exact Nat.le_refl _ | (simp only [World.size_alloc, World.size_setCell, World.size_drew]; omega) | omega) _ | refine Below.drew ?_)) hg2 (by simp; omega) (fun b e => by simp [Value.ownBlock] at e; omega)
          have ho2' : OwnI w2 w.heap.size v2 [x] := ho2
          obtain ⟨a2, cap2, rfl⟩ := ho2'.form
          have Ho2 := Lib.hid (ho2'.mono hB)
          have Ho3 := Lib.hid ho2
          clear ho2 hg2 ho2'
          go_wp2_with (at_builtin; refine wpList_append_none rfl _ _ 22 rfl w.heap.size 3 i0 1 Try.underlying22 hi _ _ _ _ rfl Ho3.out rfl ?_)
          go_wp2_with fail
          refine bodyPost_ret (v := .slice a2 1 cap2) (by simp [results, Try.results112, go_sem]) rfl ?_
          exact ⟨a2, cap2, by rw [HLL.out]; rfl, by rw [HLL.out]; exact Ho2.out, hb2⟩
        · simp only [Value.slice.injEq] at e0
          obtain ⟨rfl, -, rfl⟩ := e0
          have hgl : g < w.heap.size := (Array.getElem?_eq_some_iff.1 hgg).1
          clear hgg hs ht hn hm
          have hown0 : (w.alloc (.cells #[] 3)).ownsRow w.heap.size 3 1 (.slice (some ⟨w.heap.size, 0, none⟩) 0 0) 0 [] := World.ownsRow_lit w #[] 0 (Nat.le_refl _) (by simp [maxLen]) (by simp)
          by_cases hpl : k < l.length
          · have hge := HK2.out hpl
            have hge2 : ¬ nth l k < x := by omega
            have hq : (nth l k == x) = false := by
              rw [beq_eq_false_iff_ne]; exact fun e => he ⟨hpl, e⟩
            obtain ⟨b, off, e1, hbl, hc⟩ := hx.cell _ hpl
            simp only [Option.some.injEq, Addr.mk.injEq, and_true] at e1
            obtain ⟨rfl, rfl⟩ := e1
            rw [Nat.zero_add] at hc
            have hkc : k < cap := by omega
            have hkc2 : k ≤ cap := by omega
            have Hown0 := Lib.hid hown0
            obtain ⟨T, hT⟩ : ∃ T, T = l.take k := ⟨_, rfl⟩
            obtain ⟨D, hD⟩ : ∃ D, D = l.drop k := ⟨_, rfl⟩
            have HTl := Lib.hid (show T.length = k by rw [hT, List.length_take]; omega)
            have HDl := Lib.hid (show D.length = l.length - k by rw [hD, List.length_drop])
            have HTr : Rd w (some ⟨g, 0, none⟩) T := hT ▸ hx.take k
            have HDr : Rd w (some ⟨g, k, none⟩) D := by have h := hx.drop k; rw [Addr.add_lit, Nat.zero_add] at h; rw [hD]; exact h
            have HLL := Lib.hid (show L = T ++ [x] ++ D by rw [HP.out, hT, hD])
            clear hT hD
            clear he hown0
            go_wp2_with (at_builtin; refine wpList_append_own _ rfl _ _ 22 rfl w.heap.size 3 i0 (.int .i64 0) 1 8 Try.underlying22 hi hz0 hz1 hz2 rfl (by decide) _ 0 [] rfl Hown0.out ⟨g, 0, none⟩ k cap (T.map (Value.int .i64)) rfl (by rw [List.length_map, Nat.mul_one]; exact HTl.out) (rd_news (HTr.below (by repeat (first | exact Below.refl _ _ | assumption | refine Below.alloc ?_ (by first | exact Nat.le_refl _ | (simp only [World.size_alloc, World.size_setCell, World.size_drew]; omega) | omega) _ | refine Below.setCell ?_ (by first | exact Nat.le_refl _ | (simp only [World.size_alloc, World.size_setCell, World.size_drew]; omega) | omega) _ | refine Below.drew ?_)))) (ints_one _) (by unfold maxLen; omega) (by omega) (by simp) ?_)
            intro v1 w1 ho1 hg1 _
            try simp only [Nat.zero_add, List.nil_append] at ho1
            have hb1 : Below w.heap.size w w1 := Below.grown (w := w.alloc (.cells #[] 3)) (by repeat (first | exact Below.refl _ _ | assumption | refine Below.alloc ?_ (by first | exact Nat.le_refl _ | (simp only [World.size_alloc, World.size_setCell, World.size_drew]; omega) | omega) _ | refine Below.setCell ?_ (by first | exact Nat.le_refl _ | (simp only [World.size_alloc, World.size_setCell, World.size_drew]; omega) | omega) _ | refine Below.drew ?_)) hg1 (by simp) (fun b e => by simp [Value.ownBlock] at e; omega)
            clear hg1
            obtain ⟨a1, cap1, rfl⟩ : ∃ a1 cap1, v1 = .slice a1 k cap1 := by
              rcases ho1.2 with ⟨rfl, h0⟩ | ⟨g1, cap1, cur1, rfl, _⟩
              · exact ⟨none, 0, by rw [h0]⟩
              · exact ⟨_, _, rfl⟩
            have Ho1 := Lib.hid ho1
            have zw1 : w.heap.size ≤ w1.heap.size := hb1.size
            clear ho1
            go_wp2_with (at_builtin; refine wpList_append_own _ rfl _ _ 22 rfl w.heap.size 3 i0 (.int .i64 0) 1 8 Try.underlying22 hi hz0 hz1 hz2 rfl (by decide) (.slice a1 k cap1) k (T.map (Value.int .i64)) rfl (Ho1.out.alloc _) ⟨w1.heap.size, 0, none⟩ 1 1 [.int .i64 x] rfl rfl (cell_one_new _ _ _) (by intro u hu; simp at hu; subst hu; rfl) (by unfold maxLen; omega) (by omega) (by simp; omega) ?_)
            intro v2 w2 ho2 hg2 _
            have hb2 : Below w.heap.size w w2 := hb1.trans (below_of_grown (grown_alloc_set hg2) (fun b e => (Ho1.out.lt b e).1) hb1.size)
            clear hg2
            obtain ⟨a2, cap2, rfl⟩ : ∃ a2 cap2, v2 = .slice a2 (k+1) cap2 := by
              rcases ho2.2 with ⟨rfl, h0⟩ | ⟨g1, cap1, cur1, rfl, _⟩
              · exact ⟨none, 0, by rw [h0]⟩
              · exact ⟨_, _, rfl⟩
            have Ho2 := Lib.hid ho2
            clear ho2 Ho1
            go_wp2_with (at_builtin; refine wpList_append_own _ rfl _ _ 22 rfl w.heap.size 3 i0 (.int .i64 0) 1 8 Try.underlying22 hi hz0 hz1 hz2 rfl (by decide) (.slice a2 (k + 1) cap2) (k + 1) (T.map (Value.int .i64) ++ [.int .i64 x]) rfl Ho2.out ⟨g, k, none⟩ (l.length - k) (cap - k) (D.map (Value.int .i64)) rfl (by rw [List.length_map, Nat.mul_one]; exact HDl.out) (rd_news (HDr.below hb2)) (ints_one _) (by unfold maxLen; omega) (by omega) (by have := hb2.size; omega) ?_)
            intro v3 w3 ho3 hg3 _
            have hb3 : Below w.heap.size w w3 := hb2.trans (below_of_grown hg3 (fun b e => (Ho2.out.lt b e).1) hb2.size)
            have hll : L.length = k + 1 + (l.length - k) := by
              have h := congrArg List.length HLL.out
              rw [List.length_append, List.length_append, HTl.out, HDl.out, List.length_singleton] at h
              exact h
            have ho4 : OwnI w3 w.heap.size v3 L := by
              unfold OwnI
              rw [hll, HLL.out, List.map_append, List.map_append, List.append_assoc]
              exact ho3
            obtain ⟨a3, cap3, rfl⟩ := ho4.form
            have Ho4 := Lib.hid (ho4.mono hB)
            clear ho3 hg3 Ho2 ho4 hll
            go_wp2_with fail
            refine bodyPost_ret (v := .slice a3 L.length cap3) (by simp [results, Try.results112, go_sem]) rfl ?_
            exact ⟨a3, cap3, rfl, Ho4.out, hb3⟩
          · obtain rfl : k = l.length := by omega
            have Hown0 := Lib.hid hown0
            have HLL := Lib.hid (show L = l ++ [x] ++ [] by rw [HP.out]; simp)
            clear he hown0 hpl
            by_cases hcl : cap = l.length
            · obtain rfl : cap = l.length := hcl
              go_wp2_with (at_builtin; refine wpList_append_own _ rfl _ _ 22 rfl w.heap.size 3 i0 (.int .i64 0) 1 8 Try.underlying22 hi hz0 hz1 hz2 rfl (by decide) _ 0 [] rfl Hown0.out ⟨g, 0, none⟩ l.length l.length (l.map (Value.int .i64)) rfl (by rw [List.length_map, Nat.mul_one]) (rd_news (hx.below (by repeat (first | exact Below.refl _ _ | assumption | refine Below.alloc ?_ (by first | exact Nat.le_refl _ | (simp only [World.size_alloc, World.size_setCell, World.size_drew]; omega) | omega) _ | refine Below.setCell ?_ (by first | exact Nat.le_refl _ | (simp only [World.size_alloc, World.size_setCell, World.size_drew]; omega) | omega) _ | refine Below.drew ?_)))) (ints_one _) (by unfold maxLen; omega) (by omega) (by simp) ?_)
              intro v1 w1 ho1 hg1 _
              try simp only [Nat.zero_add, List.nil_append] at ho1
              have hb1 : Below w.heap.size w w1 := Below.grown (w := w.alloc (.cells #[] 3)) (by repeat (first | exact Below.refl _ _ | assumption | refine Below.alloc ?_ (by first | exact Nat.le_refl _ | (simp only [World.size_alloc, World.size_setCell, World.size_drew]; omega) | omega) _ | refine Below.setCell ?_ (by first | exact Nat.le_refl _ | (simp only [World.size_alloc, World.size_setCell, World.size_drew]; omega) | omega) _ | refine Below.drew ?_)) hg1 (by simp) (fun b e => by simp [Value.ownBlock] at e; omega)
              clear hg1
              obtain ⟨a1, cap1, rfl⟩ : ∃ a1 cap1, v1 = .slice a1 l.length cap1 := by
                rcases ho1.2 with ⟨rfl, h0⟩ | ⟨g1, cap1, cur1, rfl, _⟩
                · exact ⟨none, 0, by rw [h0]⟩
                · exact ⟨_, _, rfl⟩
              have Ho1 := Lib.hid ho1
              have zw1 : w.heap.size ≤ w1.heap.size := hb1.size
              clear ho1
              go_wp2_with (at_builtin; refine wpList_append_own _ rfl _ _ 22 rfl w.heap.size 3 i0 (.int .i64 0) 1 8 Try.underlying22 hi hz0 hz1 hz2 rfl (by decide) (.slice a1 l.length cap1) l.length (l.map (Value.int .i64)) rfl (Ho1.out.alloc _) ⟨w1.heap.size, 0, none⟩ 1 1 [.int .i64 x] rfl rfl (cell_one_new _ _ _) (by intro u hu; simp at hu; subst hu; rfl) (by unfold maxLen; omega) (by omega) (by simp; omega) ?_)
              intro v2 w2 ho2 hg2 _
              have hb2 : Below w.heap.size w w2 := hb1.trans (below_of_grown (grown_alloc_set hg2) (fun b e => (Ho1.out.lt b e).1) hb1.size)
              clear hg2
              obtain ⟨a2, cap2, rfl⟩ : ∃ a2 cap2, v2 = .slice a2 (l.length+1) cap2 := by
                rcases ho2.2 with ⟨rfl, h0⟩ | ⟨g1, cap1, cur1, rfl, _⟩
                · exact ⟨none, 0, by rw [h0]⟩
                · exact ⟨_, _, rfl⟩
              have Ho2 := Lib.hid ho2
              clear ho2 Ho1
              go_wp2_with (at_builtin; refine wpList_append_own _ rfl _ _ 22 rfl w.heap.size 3 i0 (.int .i64 0) 1 8 Try.underlying22 hi hz0 hz1 hz2 rfl (by decide) (.slice a2 (l.length + 1) cap2) (l.length + 1) (l.map (Value.int .i64) ++ [.int .i64 x]) rfl Ho2.out ⟨g, 0, none⟩ 0 0 [] rfl rfl (fun j u hj => by simp at hj) (fun u hu => by simp at hu) (by unfold maxLen; omega) (by omega) (by have := hb2.size; omega) ?_)
              intro v3 w3 ho3 hg3 _
              have hb3 : Below w.heap.size w w3 := hb2.trans (below_of_grown hg3 (fun b e => (Ho2.out.lt b e).1) hb2.size)
              have hll : L.length = l.length + 1 + 0 := by
                have h := congrArg List.length HLL.out
                rw [List.length_append, List.length_append, List.length_nil, List.length_singleton] at h
                exact h
              have ho4 : OwnI w3 w.heap.size v3 L := by
                unfold OwnI
                rw [hll, HLL.out, List.map_append, List.map_append, List.append_assoc]
                simpa using ho3
              obtain ⟨a3, cap3, rfl⟩ := ho4.form
              have Ho4 := Lib.hid (ho4.mono hB)
              clear ho3 hg3 Ho2 ho4 hll
              go_wp2_with fail
              refine bodyPost_ret (v := .slice a3 L.length cap3) (by simp [results, Try.results112, go_sem]) rfl ?_
              exact ⟨a3, cap3, rfl, Ho4.out, hb3⟩
            · have hcl2 : ¬ l.length = cap := fun e => hcl e.symm
              have hcl3 : l.length < cap := by omega
              go_wp2_with (at_builtin; refine wpList_append_own _ rfl _ _ 22 rfl w.heap.size 3 i0 (.int .i64 0) 1 8 Try.underlying22 hi hz0 hz1 hz2 rfl (by decide) _ 0 [] rfl Hown0.out ⟨g, 0, none⟩ l.length cap (l.map (Value.int .i64)) rfl (by rw [List.length_map, Nat.mul_one]) (rd_news (hx.below (by repeat (first | exact Below.refl _ _ | assumption | refine Below.alloc ?_ (by first | exact Nat.le_refl _ | (simp only [World.size_alloc, World.size_setCell, World.size_drew]; omega) | omega) _ | refine Below.setCell ?_ (by first | exact Nat.le_refl _ | (simp only [World.size_alloc, World.size_setCell, World.size_drew]; omega) | omega) _ | refine Below.drew ?_)))) (ints_one _) (by unfold maxLen; omega) (by omega) (by simp) ?_)
              intro v1 w1 ho1 hg1 _
              try simp only [Nat.zero_add, List.nil_append] at ho1
              have hb1 : Below w.heap.size w w1 := Below.grown (w := w.alloc (.cells #[] 3)) (by repeat (first | exact Below.refl _ _ | assumption | refine Below.alloc ?_ (by first | exact Nat.le_refl _ | (simp only [World.size_alloc, World.size_setCell, World.size_drew]; omega) | omega) _ | refine Below.setCell ?_ (by first | exact Nat.le_refl _ | (simp only [World.size_alloc, World.size_setCell, World.size_drew]; omega) | omega) _ | refine Below.drew ?_)) hg1 (by simp) (fun b e => by simp [Value.ownBlock] at e; omega)
              clear hg1
              obtain ⟨a1, cap1, rfl⟩ : ∃ a1 cap1, v1 = .slice a1 l.length cap1 := by
                rcases ho1.2 with ⟨rfl, h0⟩ | ⟨g1, cap1, cur1, rfl, _⟩
                · exact ⟨none, 0, by rw [h0]⟩
                · exact ⟨_, _, rfl⟩
              have Ho1 := Lib.hid ho1
              have zw1 : w.heap.size ≤ w1.heap.size := hb1.size
              clear ho1
              go_wp2_with (at_builtin; refine wpList_append_own _ rfl _ _ 22 rfl w.heap.size 3 i0 (.int .i64 0) 1 8 Try.underlying22 hi hz0 hz1 hz2 rfl (by decide) (.slice a1 l.length cap1) l.length (l.map (Value.int .i64)) rfl (Ho1.out.alloc _) ⟨w1.heap.size, 0, none⟩ 1 1 [.int .i64 x] rfl rfl (cell_one_new _ _ _) (by intro u hu; simp at hu; subst hu; rfl) (by unfold maxLen; omega) (by omega) (by simp; omega) ?_)
              intro v2 w2 ho2 hg2 _
              have hb2 : Below w.heap.size w w2 := hb1.trans (below_of_grown (grown_alloc_set hg2) (fun b e => (Ho1.out.lt b e).1) hb1.size)
              clear hg2
              obtain ⟨a2, cap2, rfl⟩ : ∃ a2 cap2, v2 = .slice a2 (l.length+1) cap2 := by
                rcases ho2.2 with ⟨rfl, h0⟩ | ⟨g1, cap1, cur1, rfl, _⟩
                · exact ⟨none, 0, by rw [h0]⟩
                · exact ⟨_, _, rfl⟩
              have Ho2 := Lib.hid ho2
              clear ho2 Ho1
              go_wp2_with (at_builtin; refine wpList_append_own _ rfl _ _ 22 rfl w.heap.size 3 i0 (.int .i64 0) 1 8 Try.underlying22 hi hz0 hz1 hz2 rfl (by decide) (.slice a2 (l.length + 1) cap2) (l.length + 1) (l.map (Value.int .i64) ++ [.int .i64 x]) rfl Ho2.out ⟨g, l.length, none⟩ 0 (cap - l.length) [] rfl rfl (fun j u hj => by simp at hj) (fun u hu => by simp at hu) (by unfold maxLen; omega) (by omega) (by have := hb2.size; omega) ?_)
              intro v3 w3 ho3 hg3 _
              have hb3 : Below w.heap.size w w3 := hb2.trans (below_of_grown hg3 (fun b e => (Ho2.out.lt b e).1) hb2.size)
              have hll : L.length = l.length + 1 + 0 := by
                have h := congrArg List.length HLL.out
                rw [List.length_append, List.length_append, List.length_nil, List.length_singleton] at h
                exact h
              have ho4 : OwnI w3 w.heap.size v3 L := by
                unfold OwnI
                rw [hll, HLL.out, List.map_append, List.map_append, List.append_assoc]
                simpa using ho3
              obtain ⟨a3, cap3, rfl⟩ := ho4.form
              have Ho4 := Lib.hid (ho4.mono hB)
              clear ho3 hg3 Ho2 ho4 hll
              go_wp2_with fail
              refine bodyPost_ret (v := .slice a3 L.length cap3) (by simp [results, Try.results112, go_sem]) rfl ?_
              exact ⟨a3, cap3, rfl, Ho4.out, hb3⟩

theorem orBelow_any (n : Int) (a : Option Addr) (xs : List Int) (cap : Nat) (i : Int) (w : World) (hx : Rd w a xs) (hr : RelP n xs) (hi : 0 ≤ i) :
    Calls Try.prog 113 #[.agg #[.int .i64 n, .slice a xs.length cap], .int .i64 i] w fun e w' => e = .returned (.int .i64 (belowTo xs i xs.length)) ∧ Below w.heap.size w w' := by
  have hx1 := hx.alloc (.cells #[.int .i64 n, .slice a xs.length cap] 28)
  have hn : xs.length ≤ 10 := by have := hr.len; have := hr.n1; omega
  go_enter Try.func113, Try.ntmps113
  go_wp2_with fail
  go_loop [5, 11] (fun s i' => ∃ k : Nat, k ≤ xs.length ∧ i' = .int .i64 k ∧ s = .int .i64 (belowTo xs i k)) (fun _ i => xs.length - (intOf i).toNat)
  case atStart => exact ⟨0, Nat.zero_le _, rfl, rfl⟩
  case round =>
    obtain ⟨k, hk, rfl, rfl⟩ := hrel
    by_cases hlt : k < xs.length
    · obtain ⟨b, off, rfl, hbl, hc⟩ := hx1.cell k hlt
      obtain ⟨b', off', e', hbl', hc'⟩ := hx.cell k hlt
      simp only [Option.some.injEq, Addr.mk.injEq, and_true] at e'
      obtain ⟨rfl, rfl⟩ := e'
      have hpk := hr.pos k hlt
      have hsk : nth xs k ≤ 9223372036854775807 := by have := hr.small k hlt; omega
      have hbs := belowTo_small xs i (k := k) (by omega)
      have hor := Lib.hid (or_bit (b := belowTo xs i k) (k := k) (by omega) (by omega))
      clear hbs
      cases hin : hasB (nth xs k) i
      · go_wp2_with (go_at_call 80; refine (orHas_any _ _ _ hpk hsk hi).mono ?_; rintro e w' ⟨rfl, rfl⟩)
        go_round
        case rel => exact ⟨k + 1, by omega, by go_num, by simp [belowTo, hin]⟩
        case measure => simp [intOf]; omega
      · go_wp2_with (go_at_call 80; refine (orHas_any _ _ _ hpk hsk hi).mono ?_; rintro e w' ⟨rfl, rfl⟩)
        go_round
        case rel => exact ⟨k + 1, by omega, by go_num, val_int (by rw [hor.out]; simp [belowTo, hin])⟩
        case measure => simp [intOf]; omega
    · obtain rfl : k = xs.length := by omega
      go_wp2_with fail
      go_ret
      exact ⟨rfl, (by repeat (first | exact Below.refl _ _ | assumption | refine Below.alloc ?_ (by first | exact Nat.le_refl _ | (simp only [World.size_alloc, World.size_setCell, World.size_drew]; omega) | omega) _ | refine Below.setCell ?_ (by first | exact Nat.le_refl _ | (simp only [World.size_alloc, World.size_setCell, World.size_drew]; omega) | omega) _ | refine Below.drew ?_))⟩

theorem setsTo_L (xs : List Int) (k : Nat) : putL (setsTo xs k) ((belowTo xs (k : Int) xs.length : Nat) : Int) = setsTo xs (k+1) := rfl
theorem lessB_ne {s own : Int} (h : (s != own) = false) : lessB s own = false := by simp [lessB, h]
theorem lessB_val {s own : Int} (h : (s != own) = true) : lessB s own = (sub s.toNat own.toNat == 0) := by simp [lessB, h]
theorem lessB_sub {s : Int} {o : Nat} (h0 : 0 ≤ s) (h1 : s < 1024) (h2 : o < 1024) (h : (s != (o : Int)) = true) : (bits .andNot .i64 s (o : Int) == 0) = lessB s (o : Int) := by
  rw [lessB_val h, sub_i h0 (by omega) (by omega) (by omega), Int.toNat_natCast, Bool.eq_iff_iff, beq_iff_eq, beq_iff_eq]
  omega
theorem ivLevels_any (n : Int) (a : Option Addr) (xs : List Int) (cap : Nat) (w : World) (hx : Rd w a xs) (hr : RelP n xs) :
    Calls Try.prog 90 #[.agg #[.int .i64 n, .slice a xs.length cap]] w fun e w' => ∃ a' cap', e = .returned (.slice a' xs.length cap') ∧ OwnI w' w.heap.size (.slice a' xs.length cap') (levs xs xs.length) ∧ Below w.heap.size w w' := by
  obtain ⟨i0, hi, hz0, hz1, hz2⟩ := info_parts infoInt
  obtain rfl : n = (xs.length : Int) := hr.len.symm
  have hn : xs.length ≤ 10 := by have := hr.n1; omega
  go_enter Try.func90, Try.ntmps90
  go_wp2_with fail
  go_loopw [3, 13] (fun v i wr => ∃ (k : Nat) (aS : Option Addr) (cS : Nat), k ≤ xs.length ∧ i = .int .i64 k ∧ v = .slice aS (setsTo xs k).length cS ∧ OwnI wr (w.heap.size + 1) (.slice aS (setsTo xs k).length cS) (setsTo xs k) ∧ Below w.heap.size w wr ∧ Box2 wr w.heap.size (.int .i64 (xs.length : Int)) (.slice a xs.length cap)) (fun _ i _ => xs.length - (intOf i).toNat)
  case atStart => exact ⟨0, none, 0, Nat.zero_le _, rfl, rfl, OwnI.nil _ _, (by repeat (first | exact Below.refl _ _ | assumption | refine Below.alloc ?_ (by first | exact Nat.le_refl _ | (simp only [World.size_alloc, World.size_setCell, World.size_drew]; omega) | omega) _ | refine Below.setCell ?_ (by first | exact Nat.le_refl _ | (simp only [World.size_alloc, World.size_setCell, World.size_drew]; omega) | omega) _ | refine Below.drew ?_)), Box2.new w _ _ _⟩
  case round =>
    obtain ⟨k, aS, cS, hk, rfl, rfl, hown, hb, hB⟩ := hrel
    have ⟨zr, cr, dr⟩ := hB
    have hsl := setsTo_len xs k
    by_cases hlt : k < xs.length
    · have k0 : (0 : Int) ≤ (k : Int) := by omega
      have hLL := Lib.hid (setsTo_L xs k)
      go_wp2_with fail
      refine (orBelow_any _ _ _ _ _ _ (hx.below hb) hr k0).mono ?_
      rintro e w2 ⟨rfl, hb2⟩
      have o2 := hown.below hb2 (Nat.le_refl _)
      have B2 := hB.below hb2
      have bw2 := hb.trans (hb2.mono hb.size)
      have hz2' : w.heap.size + 1 ≤ w2.heap.size := by have := B2.1; omega
      clear hb2 hown cr dr
      go_wp2_with fail
      refine (l1Put_any _ _ _ _ _ _ o2 (by omega) hz2').mono ?_
      rw [hLL.out]
      rintro e w3 ⟨a3, c3, rfl, o3, hb3⟩
      have B3 := B2.below hb3
      have bw3 := bw2.trans (hb3.mono bw2.size)
      clear hb3
      go_wp2_with fail
      go_roundw
      case rel => exact ⟨k + 1, a3, c3, by omega, by go_num, rfl, o3, bw3, B3⟩
      case measure => simp [intOf]; omega
    · obtain rfl : k = xs.length := by omega
      obtain ⟨ss, hss⟩ : ∃ ss, ss = setsTo xs xs.length := ⟨_, rfl⟩
      have hbd : ∀ m, m < ss.length → 0 ≤ nth ss m ∧ nth ss m < 1024 := fun m hm => by rw [hss] at hm ⊢; exact setsTo_bd hn hm
      have hlv : ∀ i, lv xs i = ((lvTo ss ((belowTo xs (i : Int) xs.length : Nat) : Int) ss.length : Nat) : Int) := fun i => by rw [hss]; rfl
      rw [← hss] at hown hsl
      rw [← hss]
      have HBD := Lib.hid hbd
      have HLV := Lib.hid hlv
      clear hss hbd hlv
      have hUs := hown.lt
      have zr2 : w.heap.size + 1 ≤ wr.heap.size := by omega
      have hrs := hown.rd
      obtain ⟨wo, rfl⟩ : ∃ wo : World, wo = wr := ⟨_, rfl⟩
      go_wp2_with fail
      clear cr dr
      go_loopw [5, 25] (fun v i wr => ∃ k : Nat, k ≤ xs.length ∧ i = .int .i64 k ∧ OwnI wr wo.heap.size v (levs xs k) ∧ Below wo.heap.size wo wr) (fun _ i _ => xs.length - (intOf i).toNat)
      case atStart => exact ⟨0, Nat.zero_le _, rfl, OwnI.nil _ _, Below.refl _ _⟩
      case round =>
        obtain ⟨k, hk, rfl, hv, hbv⟩ := hrel
        obtain ⟨av, cv, rfl⟩ := hv.form
        rw [levs_len] at hv ⊢
        obtain ⟨wp, rfl⟩ : ∃ wp : World, wp = wr := ⟨_, rfl⟩
        by_cases hlt : k < xs.length
        · have k0 : (0 : Int) ≤ (k : Int) := by omega
          have hbt := belowTo_small xs (k : Int) (k := xs.length) hn
          go_wp2_with fail
          go_loopw [7, 30] (fun c i wr => ∃ m : Nat, m ≤ ss.length ∧ i = .int .i64 m ∧ c = .int .i64 (lvTo ss ((belowTo xs (k : Int) xs.length : Nat) : Int) m) ∧ Below wp.heap.size wp wr) (fun _ i _ => ss.length - (intOf i).toNat)
          case atStart => exact ⟨0, Nat.zero_le _, rfl, rfl, Below.refl _ _⟩
          case round =>
            obtain ⟨m, hm, rfl, rfl, hbm⟩ := hrel
            have hbt2 := hbv.trans (hbm.mono hbv.size)
            have bwm := hb.trans (hbt2.mono hb.size)
            by_cases hlt2 : m < ss.length
            · have hBm := hB.below hbt2
              have ⟨z1, c1, d1⟩ := hBm
              obtain ⟨b, off, rfl, hbl, hc⟩ := (hrs.below hbt2).cell m hlt2
              have ⟨s0, s1⟩ := HBD.out m hlt2
              have hle := lvTo_le ss ((belowTo xs (k : Int) xs.length : Nat) : Int) m
              cases hne : (nth ss m != ((belowTo xs (k : Int) xs.length : Nat) : Int))
              · have HN := Lib.hid (lessB_ne hne)
                go_wp2_with fail
                refine (orBelow_any _ _ _ _ _ _ (hx.below bwm) hr k0).mono ?_
                rintro e w4 ⟨rfl, hb4⟩
                have bm4 := hbm.trans (hb4.mono hbm.size)
                clear c1 d1 hc
                go_wp2_with fail
                go_roundw
                case rel => exact ⟨m + 1, by omega, by go_num, by simp only [lvTo, HN.out]; rfl, bm4⟩
                case measure => simp [intOf]; omega
              · have hsb := lessB_sub s0 s1 hbt hne
                cases hlb : lessB (nth ss m) ((belowTo xs (k : Int) xs.length : Nat) : Int)
                all_goals
                  rw [hlb] at hsb
                  have HN := Lib.hid hlb
                  clear hlb
                  go_wp2_with fail
                  refine (orBelow_any _ _ _ _ _ _ (hx.below bwm) hr k0).mono ?_
                  rintro e w4 ⟨rfl, hb4⟩
                  have bm4 := hbm.trans (hb4.mono hbm.size)
                  have B4 := hBm.below hb4
                  have bw4 := bwm.trans (hb4.mono bwm.size)
                  have ⟨z4, c4, d4⟩ := B4
                  clear c1 d1 hc hb4
                  go_wp2_with fail
                  refine (orBelow_any _ _ _ _ _ _ (hx.below bw4) hr k0).mono ?_
                  rintro e w5 ⟨rfl, hb5⟩
                  have bm5 := bm4.trans (hb5.mono bm4.size)
                  clear c4 d4
                  go_wp2_with fail
                  go_roundw
                  case rel => exact ⟨m + 1, by omega, by go_num, by simp only [lvTo, HN.out]; first | rfl | go_num, bm5⟩
                  case measure => simp [intOf]; omega
            · obtain rfl : m = ss.length := by omega
              have hv2 := hv.below hbm (Nat.le_refl _)
              have hbt3 := hbt2.size
              have HLK := Lib.hid (HLV.out k)
              rw [← HLK.out]
              go_wp2_with (at_builtin; refine wpList_append_own _ rfl _ _ 22 rfl wo.heap.size 3 i0 (.int .i64 0) 1 8 Try.underlying22 hi hz0 hz1 hz2 rfl (by decide) (.slice av k cv) k ((levs xs k).map (Value.int .i64)) rfl (by have h := hv2.alloc (.cells #[.int .i64 (lv xs k)] 3); unfold OwnI at h; rw [levs_len] at h; exact h) ⟨wr.heap.size, 0, none⟩ 1 1 [.int .i64 (lv xs k)] rfl rfl (cell_one_new _ _ _) (by intro u hu; simp at hu; subst hu; rfl) (by unfold maxLen; omega) (by omega) (by simp; omega) ?_)
              intro v' w6 hown6 hgrow _
              have hg2 := grown_alloc_set hgrow
              have o6 : OwnI w6 wo.heap.size v' (levs xs (k + 1)) := by
                unfold OwnI
                rw [levs_len, levs, fmap_succ, List.map_append]
                exact hown6
              have hU := hv2.lt
              have bw6 := hbt2.trans (below_of_grown hg2 (fun c e => by have := hU c e; omega) hbt2.size)
              clear hown6 hgrow hU
              go_wp2_with fail
              go_roundw
              case rel => exact ⟨k + 1, by omega, by go_num, o6, bw6⟩
              case measure => simp [intOf]; omega
        · obtain rfl : k = xs.length := by omega
          go_wp2_with fail
          go_ret
          exact ⟨av, cv, rfl, hv.mono hb.size, hb.trans (hbv.mono hb.size)⟩

theorem ivEnds_any (n : Int) (a : Option Addr) (xs : List Int) (cap : Nat) (w : World) (hx : Rd w a xs) (ho : ordB n xs = true) :
    Calls Try.prog 88 #[.agg #[.int .i64 n, .slice a xs.length cap]] w fun e w' => ∃ a' cap', e = .returned (.slice a' xs.length cap') ∧ OwnV w' w.heap.size (.slice a' xs.length cap') xs.length (endp xs xs.length) ∧ Below w.heap.size w w' := by
  have hx1 := hx.alloc (.cells #[.int .i64 n, .slice a xs.length cap] 28)
  obtain ⟨i0, hi, hz0, hz1, hz2⟩ := info_parts infoIv
  have hp := ord_rel ho
  have HO := Lib.hid ho
  obtain rfl : n = (xs.length : Int) := hp.len.symm
  have hl10 : xs.length ≤ 10 := by have := hp.n1; omega
  clear ho
  go_enter Try.func88, Try.ntmps88
  go_wp2_with fail
  refine (ivLevels_any _ _ _ _ _ hx1 hp).mono ?_
  rintro e w1 ⟨a1, cap1, rfl, ho1, hb1⟩
  have A1 : Box2 w1 w.heap.size (.int .i64 (xs.length : Int)) (.slice a xs.length cap) := (Box2.new w _ _ _).below hb1
  have bw1 : Below w.heap.size w w1 := Below.trans (by repeat (first | exact Below.refl _ _ | assumption | refine Below.alloc ?_ (by first | exact Nat.le_refl _ | (simp only [World.size_alloc, World.size_setCell, World.size_drew]; omega) | omega) _ | refine Below.setCell ?_ (by first | exact Nat.le_refl _ | (simp only [World.size_alloc, World.size_setCell, World.size_drew]; omega) | omega) _ | refine Below.drew ?_)) (hb1.mono (by first | (simp only [World.size_alloc, World.size_setCell, World.size_drew]; omega) | omega))
  have hrl : Rd w1 a1 (levs xs xs.length) := ho1.rd
  clear hb1 ho1
  go_wp2_with fail
  go_loopw [4, 14] (fun v i wr => ∃ k : Nat, k ≤ xs.length ∧ i = .int .i64 k ∧ OwnV wr w1.heap.size v k (endp xs k) ∧ Below w1.heap.size w1 wr) (fun _ i _ => xs.length - (intOf i).toNat)
  case atStart => exact ⟨0, Nat.zero_le _, rfl, OwnV.nil _ _, Below.refl _ _⟩
  case round =>
    obtain ⟨k, hk, rfl, hown, hb⟩ := hrel
    obtain ⟨av, cv, rfl⟩ := hown.form
    obtain ⟨wo, rfl⟩ : ∃ wo : World, wo = wr := ⟨_, rfl⟩
    have hzr := hb.size
    by_cases hlt : k < xs.length
    · obtain ⟨b, off, rfl, hbl, hck⟩ := (hrl.below hb).cell k (by rw [levs_len]; exact hlt)
      rw [levs_nth xs hlt] at hck
      have ⟨l0, l1⟩ := lv_bd xs k
      go_wp2_with fail
      go_loopw [24] (fun i' wi => ∃ j : Nat, j ≤ xs.length ∧ i' = .int .i64 j ∧ Var2 wi wo.heap.size (.int .i64 (lv xs k)) (.int .i64 (rtTo (lv xs k) xs k j)) ∧ Below wo.heap.size wo wi) (fun i _ => xs.length - (intOf i).toNat)
      case atStart => exact ⟨0, Nat.zero_le _, rfl, Var2.new wo _ _ _, (by repeat (first | exact Below.refl _ _ | assumption | refine Below.alloc ?_ (by first | exact Nat.le_refl _ | (simp only [World.size_alloc, World.size_setCell, World.size_drew]; omega) | omega) _ | refine Below.setCell ?_ (by first | exact Nat.le_refl _ | (simp only [World.size_alloc, World.size_setCell, World.size_drew]; omega) | omega) _ | refine Below.drew ?_))⟩
      case round =>
        obtain ⟨j, hj, rfl, hV, hbj⟩ := hrel
        have ⟨⟨zV, cV, dV⟩, fV, gV⟩ := hV
        have bj := hb.trans (hbj.mono hb.size)
        have hzj := hbj.size
        by_cases hjl : j < xs.length
        · obtain ⟨b2, off2, e2, hbl2, hcj⟩ := (hrl.below bj).cell j (by rw [levs_len]; exact hjl)
          simp only [Option.some.injEq, Addr.mk.injEq, and_true] at e2
          obtain ⟨rfl, rfl⟩ := e2
          rw [levs_nth xs hjl] at hcj
          have hAj := A1.below bj
          have ⟨zA, cA, dA⟩ := hAj
          obtain ⟨b3, off3, rfl, hbl3, hc3⟩ := (hx.below (bw1.trans (bj.mono bw1.size))).cell k hlt
          have s0 := hp.pos k hlt
          have s2 : nth xs k ≤ 9223372036854775807 := by have := hp.small k hlt; omega
          have j0 : (0 : Int) ≤ (j : Int) := by omega
          have j1 : (j : Int) < (xs.length : Int) := by omega
          have k0 : (0 : Int) ≤ (k : Int) := by omega
          have k1 : (k : Int) < (xs.length : Int) := by omega
          cases hhas : hasB (nth xs k) j
          · have HM := Lib.hid (rtTo_no (st := lv xs k) hhas)
            go_wp2_with (first | (go_at_call 80; refine (orHas_any _ _ _ (by assumption) (by assumption) (by assumption)).mono ?_; rintro e w' ⟨rfl, rfl⟩) | (go_at_call 110; refine (l1Most_any _ _ _).mono ?_; rintro e w' ⟨rfl, rfl⟩))
            go_roundw
            case rel => exact ⟨j + 1, by omega, by go_num, by rw [HM.out]; exact hV.set1 _, hbj.setCell (p := ⟨wo.heap.size, 1, none⟩) (Nat.le_refl _) _⟩
            case measure => simp [intOf]; omega
          · have HM : Hid (rtTo (lv xs k) xs k (j + 1) = rtTo (lv xs k) xs k j) := by rw [Hid, rtTo, if_pos hhas]
            go_wp2_with (go_at_call 80; refine (orHas_any _ _ _ (by assumption) (by assumption) (by assumption)).mono ?_; rintro e w' ⟨rfl, rfl⟩)
            go_roundw
            case rel => exact ⟨j + 1, by omega, by go_num, by rw [HM.out]; exact hV, hbj⟩
            case measure => simp [intOf]; omega
        · obtain rfl : j = xs.length := by omega
          have o2 := hown.below hbj (Nat.le_refl _)
          have HE := Lib.hid (rtE_own HO.out hlt)
          rw [HE.out] at dV
          go_wp2_with (at_builtin; refine wpList_append_own _ rfl _ _ 65 rfl w1.heap.size 71 i0 (.agg #[.int .i64 0, .int .i64 0]) 2 16 Try.underlying65 hi hz0 hz1 hz2 rfl (by decide) (.slice av k cv) k ((endp xs k).map (Value.int .i64)) rfl (o2.alloc (.cells #[.int .i64 (lv xs k), .int .i64 (rtE xs k)] 71)) ⟨wr.heap.size, 0, none⟩ 1 1 [.int .i64 (lv xs k), .int .i64 (rtE xs k)] rfl rfl (cell_two_new _ _ _ _) (two_one _ _) (by unfold maxLen; omega) (by omega) (by simp; omega) ?_)
          intro v' w6 hown6 hgrow _
          have hg2 := grown_alloc_set hgrow
          have o6 : OwnV w6 w1.heap.size v' (k + 1) (endp xs (k + 1)) := by
            unfold OwnV endp
            rw [prs_succ, List.map_append]
            exact hown6
          have hU := o2.lt
          have bw6 := bj.trans (below_of_grown hg2 (fun c e => by have := hU c e; omega) bj.size)
          clear hown6 hgrow hU cV dV fV gV
          go_wp2_with fail
          go_roundw
          case rel => exact ⟨k + 1, by omega, by go_num, o6, bw6⟩
          case measure => simp [intOf]; omega
    · obtain rfl : k = xs.length := by omega
      go_wp2_with fail
      go_ret
      exact ⟨av, cv, rfl, hown.mono bw1.size, bw1.trans (hb.mono bw1.size)⟩

theorem mostTo_succ (l : List Int) (k : Nat) : maxI (mostTo l k) (nth l k) = mostTo l (k+1) := rfl
theorem ivMost_any (a : Option Addr) (l : List Int) (cap : Nat) (w : World) (hx : Rd w a l) :
    Calls Try.prog 89 #[.slice a l.length cap] w fun e w' => e = .returned (.int .i64 (mostTo l l.length)) ∧ w = w' := by
  have hlen := hx.len
  go_enter Try.func89, Try.ntmps89
  go_wp2_with fail
  go_loop [3, 8] (fun m i => ∃ k : Nat, k ≤ l.length ∧ i = .int .i64 k ∧ m = .int .i64 (mostTo l k)) (fun _ i => l.length - (intOf i).toNat)
  case atStart => exact ⟨0, Nat.zero_le _, rfl, rfl⟩
  case round =>
    obtain ⟨k, hk, rfl, rfl⟩ := hrel
    by_cases hlt : k < l.length
    · obtain ⟨b, off, rfl, hbl, hc⟩ := hx.cell k hlt
      have HM := Lib.hid (mostTo_succ l k)
      go_wp2_with (go_at_call 110; refine (l1Most_any _ _ _).mono ?_; rintro e w' ⟨rfl, rfl⟩)
      go_round
      case rel => exact ⟨k + 1, by omega, by go_num, val_int HM.out⟩
      case measure => simp [intOf]; omega
    · obtain rfl : k = l.length := by omega
      go_wp2_with fail
      go_ret
      exact ⟨rfl, rfl⟩

/-- a block that begins with this cell -/
def Box1 (w : World) (b : Nat) (u : Value) : Prop := b < w.heap.size ∧ w.cell? ⟨b, 0, none⟩ = some u
theorem Box1.below {w w' : World} {b : Nat} {u : Value} (h : Box1 w b u) (hb : Below w.heap.size w w') : Box1 w' b u :=
  ⟨Nat.lt_of_lt_of_le h.1 hb.size, (hb.cell (p := ⟨b, 0, none⟩) h.1).trans h.2⟩
theorem Box1.new (w : World) (u : Value) (t : TypeId) : Box1 (w.alloc (.cells #[u] t)) w.heap.size u := ⟨by simp, by simp⟩
theorem Box1.kept {w w' : World} {b : Nat} {u : Value} {row : Option Nat} (h : Box1 w b u) (hg : w.grownBy w' row) (hne : some b ≠ row) : Box1 w' b u :=
  ⟨Nat.lt_of_lt_of_le h.1 hg.size, hg.cell h.2 hne⟩
theorem Box1.touch {lo hi : Nat} {w w' : World} {b : Nat} {u : Value} (h : Box1 w b u) (ht : TouchS lo hi w w') (hb : b < lo ∨ hi ≤ b) : Box1 w' b u :=
  ⟨Nat.lt_of_lt_of_le h.1 ht.size, (World.cell?_of_block (w := w) (a := ⟨b, 0, none⟩) (ht.block b h.1 hb)).trans h.2⟩
/-- a block that begins with this cell, which may be written -/
def Var1 (w : World) (b : Nat) (u : Value) : Prop := Box1 w b u ∧ w.frozen? ⟨b, 0, none⟩ = false
theorem Var1.new (w : World) (u : Value) (t : TypeId) : Var1 (w.alloc (.cells #[u] t)) w.heap.size u := ⟨Box1.new w u t, by simp⟩
theorem Var1.below {w w' : World} {b : Nat} {u : Value} (h : Var1 w b u) (hb : Below w.heap.size w w') : Var1 w' b u :=
  ⟨h.1.below hb, (hb.frozen (p := ⟨b, 0, none⟩) h.1.1).trans h.2⟩
theorem Var1.alloc {w : World} {b : Nat} {u : Value} (h : Var1 w b u) (o : Obj) : Var1 (w.alloc o) b u := h.below ((Below.refl _ _).alloc (Nat.le_refl _) o)
theorem Var1.kept {w w' : World} {b : Nat} {u : Value} {row : Option Nat} (h : Var1 w b u) (hg : w.grownBy w' row) (hne : some b ≠ row) : Var1 w' b u :=
  ⟨h.1.kept hg hne, (World.frozen?_of_block (w := w) (a := ⟨b, 0, none⟩) (hg.block b h.1.1 hne)).trans h.2⟩
theorem Var1.set {w : World} {b : Nat} {u : Value} (h : Var1 w b u) (x : Value) : Var1 (w.setCell ⟨b, 0, none⟩ x) b x :=
  ⟨⟨by simpa using h.1.1, World.cell?_setCell_same _ _ _ h.1.2⟩, by simpa using h.2⟩
theorem Var1.other {w : World} {b : Nat} {u : Value} (h : Var1 w b u) {p : Addr} (x : Value) (hne : b ≠ p.block) : Var1 (w.setCell p x) b u :=
  h.kept (grown_set w p x) (by simpa using hne)

/-- one row more at the end of rows that have been made -/
theorem push_row {ops : Array Oper} {rest : List Oper} {o : Oper} {a : Act} {Q : Exit → Act → World → Prop} (hgd : o.guard = none) (s x : Operand)
    (ho : o.op = .call { callee := .builtin .append, args := #[s, x], argTypes := #[37, 37] }) {wr : World} {B C n cp : Nat} {ar : Option Addr} {v : Value} {vl : List Value} {xss : List (List Int)} {r : List Int}
    (hs : a.eval s = v) (hro : RowsP wr B v vl xss) (hrow : OwnI wr C (.slice ar n cp) r) (hx : a.eval x = .slice (some ⟨wr.heap.size, 0, none⟩) 1 1) (h63 : xss.length ≤ 1048576) (hBC : B ≤ C) (hC : C ≤ wr.heap.size)
    (hvC : ∀ c, v.ownBlock = some c → c < C) (hrC : ∀ k, k < xss.length → ∀ c, (valAt vl k).ownBlock = some c → c < C)
    (h : ∀ v' w', RowsP w' B v' (vl ++ [.slice ar n cp]) (xss ++ [r]) → wr.grownBy w' v.ownBlock → wpList Try.prog ops Q rest (a.put o.dst v') w') :
    wpList Try.prog ops Q (o :: rest) a (wr.alloc (.cells #[.slice ar n cp] 22)) := by
  obtain ⟨j0, hj0, hy0, hy1, hy2⟩ := info_parts infoSlice
  have hone := RowsP.one hrow hC
  have b4 : Below wr.heap.size wr (wr.alloc (.cells #[.slice ar n cp] 22)) := (Below.refl _ _).alloc (Nat.le_refl _) _
  have hro4 := hro.below b4 (Nat.le_refl _)
  obtain ⟨av, cv, rfl⟩ := hro.o.form
  refine wpList_append_own_at _ hgd s x 37 ho B 22 j0 (.slice none 0 0) 1 24 Try.underlying37 hj0 hy0 hy1 hy2 rfl (by decide) (.slice av xss.length cv) xss.length vl hs hro4.o.own ⟨wr.heap.size, 0, none⟩ 1 1 [.slice ar n cp] hx rfl (cell_one_new _ _ _) (by intro u hu; simp at hu; subst hu; rfl) (by unfold maxLen; omega) (by omega) (by simp; omega) ?_
  intro v' w' ho2 hg _ hat
  exact h v' w' (hro4.cat hone hBC hvC hrC ho2 hg hat) (grown_alloc_set hg)

/-- one number more at the end of a row that is owned -/
theorem push_at {ops : Array Oper} {rest : List Oper} {o : Oper} {a : Act} {Q : Exit → Act → World → Prop} (hgd : o.guard = none) (s x : Operand)
    (ho : o.op = .call { callee := .builtin .append, args := #[s, x], argTypes := #[22, 22] }) {wr : World} {B : Nat} {v : Value} {ys : List Int} {z : Int}
    (hs : a.eval s = v) (hown : OwnI wr B v ys) (hx : a.eval x = .slice (some ⟨wr.heap.size, 0, none⟩) 1 1) (h63 : ys.length ≤ 1048576) (hB : B ≤ wr.heap.size)
    (h : ∀ v' w', OwnI w' B v' (ys ++ [z]) → wr.grownBy w' v.ownBlock → (v'.ownBlock = v.ownBlock ∨ v'.ownBlock = some (wr.heap.size + 1)) → wpList Try.prog ops Q rest (a.put o.dst v') w') :
    wpList Try.prog ops Q (o :: rest) a (wr.alloc (.cells #[.int .i64 z] 3)) := by
  obtain ⟨i0, hi, hz0, hz1, hz2⟩ := info_parts infoInt
  refine wpList_append_own_at _ hgd s x 22 ho B 3 i0 (.int .i64 0) 1 8 Try.underlying22 hi hz0 hz1 hz2 rfl (by decide) v ys.length (ys.map (Value.int .i64)) hs (hown.alloc _) ⟨wr.heap.size, 0, none⟩ 1 1 [.int .i64 z] hx rfl (cell_one_new _ _ _) (by intro u hu; simp at hu; subst hu; rfl) (by unfold maxLen; omega) (by omega) (by simp; omega) ?_
  intro v' w' ho2 hg _ hat
  refine h v' w' ?_ (grown_alloc_set hg) (by simpa using hat)
  unfold OwnI
  rw [List.length_append, List.map_append]
  exact ho2
/-- the same at a step of a region that draws its order; the new number lies somewhere -/
theorem step_push {ops : Array Oper} {o : Oper} {a : Act} {K : Act → World → Prop} {Q : Exit → Act → World → Prop} {E : Prop} (hgd : o.guard = none) (s x : Operand)
    (ho : o.op = .call { callee := .builtin .append, args := #[s, x], argTypes := #[22, 22] }) {W : World} {B g n : Nat} {v : Value} {ys : List Int} {z : Int}
    (hs : a.eval s = v) (hx : a.eval x = .slice (some ⟨g, 0, none⟩) 1 1) (hown : OwnI W B v ys) (hn : ys.length = n) (hz : W.cell? ⟨g, 0, none⟩ = some (.int .i64 z)) (h63 : n ≤ 1048576) (hB : B ≤ W.heap.size)
    (h : ∀ g' cap w', OwnI w' B (.slice (some ⟨g', 0, none⟩) (n + 1) cap) (ys ++ [z]) → W.grownBy w' v.ownBlock → (v.ownBlock = some g' ∨ g' = W.heap.size) → K (a.put o.dst (.slice (some ⟨g', 0, none⟩) (n + 1) cap)) w') :
    if Region.wanted o (yielded ops a.tmps) = true then Oper.wp Try.prog o a W K Q else E := by
  subst hn
  obtain ⟨i0, hi, hz0, hz1, hz2⟩ := info_parts infoInt
  refine step_append_lies W hgd s x 22 ho B 3 i0 (.int .i64 0) 1 8 Try.underlying22 hi hz0 hz1 hz2 rfl (by decide) v ys.length (ys.map (Value.int .i64)) hs hown ⟨g, 0, none⟩ 1 1 [.int .i64 z] hx rfl ?_ (by intro u hu; simp at hu; subst hu; rfl) (by omega) (by unfold maxLen; omega) (by omega) hB W.heap.size rfl ?_
  · intro j u hj
    obtain ⟨hlt, e⟩ := List.getElem?_eq_some_iff.1 hj
    have h0 : j = 0 := by simpa using hlt
    subst h0
    simp at e
    subst e
    rw [Addr.add_lit]; simpa using hz
  · intro g' cap w' ho2 hg hat _
    refine h g' cap w' ?_ hg hat
    unfold OwnI
    rw [List.length_append, List.map_append]
    exact ho2
theorem news_after {w w3 : World} {x : Int} {m : Nat} (h : Below ((w.drewN m).alloc (.cells #[.int .i64 x] 3)).heap.size ((w.drewN m).alloc (.cells #[.int .i64 x] 3)) w3) : w3.cell? ⟨w.heap.size, 0, none⟩ = some (.int .i64 x) :=
  (h.cell (p := ⟨w.heap.size, 0, none⟩) (show w.heap.size < ((w.drewN m).alloc _).heap.size by rw [World.size_alloc]; exact Nat.lt_succ_of_le (Joins.below_draws w.heap.size w m).size)).trans ((show ∀ W : World, (W.alloc (.cells #[.int .i64 x] 3)).cell? ⟨W.heap.size, 0, none⟩ = some (.int .i64 x) from fun W => by simp) (w.drewN m))
theorem below_after {w w3 : World} {m : Nat} {o : Obj} (h : Below ((w.drewN m).alloc o).heap.size ((w.drewN m).alloc o) w3) : Below w.heap.size w w3 :=
  Below.trans ((Joins.below_draws w.heap.size w m).alloc (Joins.below_draws w.heap.size w m).size _) (h.mono (Nat.le_trans (Joins.below_draws w.heap.size w m).size (by simp)))
theorem below_drew {w w3 : World} {m : Nat} (h : Below (w.drewN m).heap.size (w.drewN m) w3) : Below w.heap.size w w3 :=
  Below.trans (Joins.below_draws w.heap.size w m) (h.mono (Joins.below_draws w.heap.size w m).size)
/-- two values that own no block together -/
def SepV (v u : Value) : Prop := ∀ c, v.ownBlock = some c → u.ownBlock ≠ some c
theorem SepV.symm {v u : Value} (h : SepV v u) : SepV u v := fun c e e2 => h c e2 e
/-- the first of two rows has grown -/
theorem SepV.grow {w : World} {B : Nat} {v v' u : Value} {ys : List Int} {m : Nat} (h : SepV v u) (hu : OwnI w B u ys) (hm : w.heap.size ≤ m) (hat : v'.ownBlock = v.ownBlock ∨ v'.ownBlock = some m) : SepV v' u := by
  intro c e e2
  rcases hat with h1 | h1
  · exact h c (h1 ▸ e) e2
  · rw [h1] at e
    have := (hu.lt c e2).2
    simp only [Option.some.injEq] at e
    omega

theorem RowsP.setBelow {w : World} {B : Nat} {v : Value} {vl : List Value} {xss : List (List Int)} (h : RowsP w B v vl xss) {p : Addr} (hp : p.block < B) (u : Value) : RowsP (w.setCell p u) B v vl xss :=
  ⟨⟨ownsRow_setCell_below h.o.own hp u, fun k hk => (h.o.row k hk).setBelow hp u, h.o.apart⟩, h.pair⟩
theorem sqM_succ (f : Nat → Nat → Int) (n m : Nat) : sqM f (n+1) m = sqM f n m ++ [fmap (f n) m] := by
  simp [sqM, List.range_succ]
/-- a matrix as a result -/
def GotM (e : Ending) (w w' : World) (L : List (List Int)) (b : Bool) : Prop := ∃ a c vl, e = .returned (.tuple #[.agg #[.slice a L.length c], .bool b]) ∧ RowsP w' w.heap.size (.slice a L.length c) vl L ∧ Below w.heap.size w w'
/-- a matrix that may be one -/
theorem mx_eta {xss : List (List Int)} (h : mxB xss = true) : xss = sqM (atM xss) xss.length xss.length := sq_eta (fun i hi => mxB_len h hi)

theorem cntE_row {xs : List Int} {k d i R : Nat} (hl : lv xs k = (i : Int)) (hr : rtE xs k = (R : Int)) (hR : R < d) : (fmap (cntE xs k i) d).set R (cntE xs k i R + 1) = fmap (cntE xs (k+1) i) d := by
  rw [list_fmap ((fmap (cntE xs k i) d).set R (cntE xs k i R + 1))]
  simp only [List.length_set, fmap_len]
  refine fmap_ext (fun b hb => ?_)
  rw [nth_setM (by rw [fmap_len]; exact hR), fmap_nth _ hb, cntE, hl, hr]
  by_cases e : b = R
  · rw [if_pos e, e, if_pos ⟨rfl, rfl⟩]
  · rw [if_neg e, if_neg (by omega)]; omega
theorem cntE_skip {xs : List Int} {k d i : Nat} (hl : lv xs k ≠ (i : Int)) : fmap (cntE xs k i) d = fmap (cntE xs (k+1) i) d :=
  fmap_ext (fun b hb => by rw [cntE, if_neg (fun h => hl h.1)]; omega)
set_option maxRecDepth 100000 in
set_option maxHeartbeats 1000000 in
theorem maOfOrd_any (n : Int) (a : Option Addr) (xs : List Int) (cap : Nat) (w : World) (hx : Rd w a xs) (hm : isIv n xs = true) :
    Calls Try.prog 58 #[.agg #[.int .i64 n, .slice a xs.length cap]] w fun e w' => ∃ a0 c0 vl, e = .returned (.agg #[.slice a0 (sets xs).length c0]) ∧ RowsP w' w.heap.size (.slice a0 (sets xs).length c0) vl (sqM (cntE xs xs.length) (sets xs).length (sets xs).length) ∧ Below w.heap.size w w' := by
  obtain ⟨i0, hi, hz0, hz1, hz2⟩ := info_parts infoInt
  have hlen := hx.len
  have hV := Var1.new (w.alloc (.cells #[.int .i64 n, .slice a xs.length cap] 28)) (.slice none 0 0) 39
  have hb0 : Below w.heap.size w ((w.alloc (.cells #[.int .i64 n, .slice a xs.length cap] 28)).alloc (.cells #[.slice none 0 0] 39)) := (by repeat (first | exact Below.refl _ _ | assumption | refine Below.alloc ?_ (by first | exact Nat.le_refl _ | (simp only [World.size_alloc, World.size_setCell, World.size_drew]; omega) | omega) _ | refine Below.setCell ?_ (by first | exact Nat.le_refl _ | (simp only [World.size_alloc, World.size_setCell, World.size_drew]; omega) | omega) _ | refine Below.drew ?_))
  have hA := (Box2.new w (.int .i64 n) (.slice a xs.length cap) 28).below ((Below.refl _ _).alloc (Nat.le_refl _) (.cells #[.slice none 0 0] 39))
  rw [World.size_alloc] at hV
  have hp := ord_rel (isIv_ord hm)
  have h10 : xs.length ≤ 10 := by have := hp.len; have := hp.n1; omega
  have hsl := sets_len xs
  have HE : Hid (∀ k, k < xs.length → (0 ≤ lv xs k ∧ lv xs k < ((sets xs).length : Int)) ∧ (0 ≤ rtE xs k ∧ rtE xs k < ((sets xs).length : Int))) := fun k hk => ends_in hm hk
  have HML := Lib.hid (most_levels hp (isIv_two hm))
  obtain ⟨D, hD⟩ : ∃ D, D = (sets xs).length := ⟨_, rfl⟩
  rw [← hD] at hsl HE HML ⊢
  have HX := Lib.hid hx
  have HP := Lib.hid hp
  have HOB := Lib.hid (isIv_ord hm)
  clear hp hx hD hm
  go_enter Try.func58, Try.ntmps58
  go_wp2_with fail
  refine (ivEnds_any _ _ _ _ _ (HX.out.below hb0) HOB.out).mono ?_
  rintro e w1 ⟨ag, cg, rfl, ho, hb⟩
  have b1 : Below w.heap.size w w1 := hb0.trans (hb.mono (by simp; omega))
  have hV1 := hV.below hb
  have hA1 := hA.below hb
  have ⟨zA, cA, dA⟩ := hA1
  have hzw1 : w.heap.size + 2 ≤ w1.heap.size := by have := hb.size; simp at this; omega
  have HO := Lib.hid ho
  have HV1 := Lib.hid hV1
  clear hb hV hb0 ho hV1 hA hA1
  go_wp2_with fail
  refine (ivLevels_any _ _ _ _ _ (HX.out.below b1) HP.out).mono ?_
  rintro e w2 ⟨al, cl, rfl, hol, hb2⟩
  have b2 := b1.trans (hb2.mono b1.size)
  have HO2 := Lib.hid (HO.out.below hb2 (Nat.le_refl _))
  have HV2 := Lib.hid (HV1.out.below hb2)
  have hz2' : w.heap.size + 2 ≤ w2.heap.size := by have := hb2.size; omega
  have hml := ivMost_any al (levs xs xs.length) cl w2 hol.rd
  rw [levs_len] at hml
  have hmv := HML.out
  obtain ⟨M, hM⟩ : ∃ M, M = mostTo (levs xs xs.length) xs.length := ⟨_, rfl⟩
  rw [← hM] at hml hmv
  have HMC := Lib.hid hml
  have hMD : M = (D : Int) - 1 := by omega
  clear hb2 HO HV1 cA dA hol hml hM hmv
  subst hMD
  go_wp2_with fail
  refine HMC.out.mono ?_
  rintro e w' ⟨rfl, rfl⟩
  have hDD : (D : Int) - 1 + 1 = (D : Int) := by omega
  have hO1 := Var1.new w2 (.slice none 0 0) 39
  have bb1 : Below w2.heap.size w2 (w2.alloc (.cells #[.slice none 0 0] 39)) := (by repeat (first | exact Below.refl _ _ | assumption | refine Below.alloc ?_ (by first | exact Nat.le_refl _ | (simp only [World.size_alloc, World.size_setCell, World.size_drew]; omega) | omega) _ | refine Below.setCell ?_ (by first | exact Nat.le_refl _ | (simp only [World.size_alloc, World.size_setCell, World.size_drew]; omega) | omega) _ | refine Below.drew ?_))
  have HV3 := Lib.hid (HV2.out.below bb1)
  have HO1 := Lib.hid hO1
  have hRE : Hid (∀ W, Below w2.heap.size w2 W → Rd W ag (endp xs xs.length)) := fun W h => (HO2.out.rd (by omega)).below h
  have HB1 := Lib.hid (b2.trans (bb1.mono b2.size))
  obtain ⟨b4, hb4⟩ : ∃ b4, b4 = w2.heap.size := ⟨_, rfl⟩
  have HB4 := Lib.hid hb4
  have hz4 : w.heap.size + 2 ≤ b4 := by omega
  have HBB := Lib.hid bb1
  rw [← hb4] at HO1
  clear hb4 hO1 bb1 HMC
  go_wp2_with fail
  clear hDD
  go_loopw [6] (fun i wr => ∃ (k : Nat) (v : Value) (vl : List Value), k ≤ D ∧ i = .int .i64 k ∧ Var1 wr b4 v ∧ RowsP wr (b4 + 1) v vl (sqM (cntE xs xs.length) k D) ∧ Var1 wr (w.heap.size + 1) (.slice none 0 0) ∧ Below w2.heap.size w2 wr) (fun i _ => D - (intOf i).toNat)
  case atStart => exact ⟨0, .slice none 0 0, [], Nat.zero_le _, rfl, HO1.out, RowsP.nil _ _, HV3.out, HBB.out⟩
  case round =>
    rw [← HB4.out]
    obtain ⟨k, v, vl, hk, rfl, hO, hro, hV, hb⟩ := hrel
    have hbs := hb.size
    have hO9 := hO.1.1
    have HRO := Lib.hid hro
    obtain ⟨av, cv, ev⟩ := hro.o.form
    rw [sqM_len] at ev
    subst ev
    have HO := Lib.hid hO
    have HV := Lib.hid hV
    by_cases hlt : k < D
    · have k1 : (k : Int) < (D : Int) := by omega
      have HN : Hid (sqM (cntE xs xs.length) (k+1) D = sqM (cntE xs xs.length) k D ++ [fmap (cntE xs xs.length k) D]) := sqM_succ _ _ _
      have h63 : (sqM (cntE xs xs.length) k D).length ≤ 1048576 := by rw [sqM_len]; omega
      obtain ⟨W1, hW1⟩ : ∃ x : World, x = wr := ⟨_, rfl⟩
      subst hW1
      clear hro hO hV
      go_wp2_with (at_make; refine wpList_make_full _ rfl (.tmp 22) (.tmp 22) 22 rfl W1.heap.size 3 i0 (.int .i64 0) 1 Try.underlying22 hi hz0 hz1 .i64 .i64 _ _ D rfl rfl rfl rfl (by rw [hz2]; omega) (by unfold maxLen; omega) (Nat.le_refl _) ?_; intro w4 hown4 hgrow4)
      have bb4 : Below W1.heap.size W1 w4 := below_grown_none hgrow4 (Nat.le_refl _)
      have o4 : OwnI w4 W1.heap.size (.slice (some ⟨W1.heap.size, 0, none⟩) D D) (fmap (cntE xs 0 k) D) := by
        have h := made_row (fun _ => 0) hown4
        have e : fmap (cntE xs 0 k) D = List.replicate D 0 := by
          apply List.ext_getElem?
          intro j
          by_cases hj : j < D <;> simp [fmap, hj, cntE]
        rw [e]
        simpa [rowF, fmap] using h
      have HO4 := Lib.hid o4
      clear hown4 hgrow4 o4
      go_wp2_with fail
      go_loopw [26] (fun i wq => ∃ q : Nat, q ≤ xs.length ∧ i = .int .i64 q ∧ OwnI wq W1.heap.size (.slice (some ⟨W1.heap.size, 0, none⟩) D D) (fmap (cntE xs q k) D) ∧ Below W1.heap.size W1 wq) (fun i _ => xs.length - (intOf i).toNat)
      case atStart => exact ⟨0, Nat.zero_le _, rfl, HO4.out, bb4⟩
      case round =>
        obtain ⟨q, hq, rfl, hu, hbq⟩ := hrel
        have hbqs := hbq.size
        by_cases hlt2 : q < xs.length
        · have q1 : (q : Int) < (xs.length : Int) := by omega
          obtain ⟨b5, off5, rfl, hb5, hcl, hcr⟩ := (hRE.out wr (hb.trans (hbq.mono (by omega)))).pair (prs_len _ _ _) hlt2
          rw [endp, prs_lft _ _ hlt2] at hcl
          rw [endp, prs_rgt _ _ hlt2] at hcr
          have ⟨⟨l0, l1⟩, ⟨r0, r1⟩⟩ := HE.out q hlt2
          obtain ⟨R, hR⟩ := Int.eq_ofNat_of_zero_le r0
          by_cases hlk : lv xs q = (k : Int)
          · have HST := Lib.hid (cntE_row (d := D) hlk hR (by omega))
            rw [hlk] at hcl
            rw [hR] at hcr r1
            have hRD : R < D := by omega
            have hu' : wr.ownsRow W1.heap.size 3 1 (.slice (some ⟨W1.heap.size, 0, none⟩) D D) D ((fmap (cntE xs q k) D).map (Value.int .i64)) := by
              have h := hu
              unfold OwnI at h
              rw [fmap_len] at h
              exact h
            have hst := (World.ownsRow.stored hu' R (.int .i64 (cntE xs q k R + 1)))
            have hcc := World.ownsRow.cellAt hu' R (by omega)
            have hcR : wr.cell? ⟨W1.heap.size, R, none⟩ = some (.int .i64 (cntE xs q k R)) := by
              rw [hcc]
              simp [fmap, hRD]
            have hfr := World.ownsRow.frozenAt hu' R
            have ⟨hb1', hb2'⟩ := cntE_bd xs k R q
            rw [← List.map_set, HST.out] at hst
            have hst2 : OwnI (wr.setCell ⟨W1.heap.size, R, none⟩ (.int .i64 (cntE xs q k R + 1))) W1.heap.size (.slice (some ⟨W1.heap.size, 0, none⟩) D D) (fmap (cntE xs (q+1) k) D) := by
              unfold OwnI
              rw [fmap_len]
              exact hst.1
            have hst3 := hst2.alloc (.cells #[.int .i64 (k : Int), .int .i64 (R : Int)] 71)
            have b9 := (hbq.setCell (p := ⟨W1.heap.size, R, none⟩) (Nat.le_refl _) (.int .i64 (cntE xs q k R + 1))).alloc (by simpa using hbqs) (.cells #[.int .i64 (k : Int), .int .i64 (R : Int)] 71)
            have hgz := (hu.lt W1.heap.size rfl).2
            obtain ⟨Z, hZ⟩ : ∃ Z, Z = cntE xs q k R := ⟨_, rfl⟩
            rw [← hZ] at hcR hst3 b9 hb1' hb2'
            have HS3 := Lib.hid hst3
            clear hu hu' hst hst2 hst3 hcc hlk hR hZ
            go_wp2_with fail
            go_roundw
            case rel => exact ⟨q + 1, by omega, by go_num, HS3.out, b9⟩
            case measure => simp [intOf]; omega
          · have hne : (lv xs q == (k : Int)) = false := by simp [hlk]
            have HST := Lib.hid (cntE_skip (d := D) hlk)
            have hu3 := hu.alloc (.cells #[.int .i64 (lv xs q), .int .i64 (rtE xs q)] 71)
            rw [HST.out] at hu3
            have b9 := hbq.alloc hbqs (.cells #[.int .i64 (lv xs q), .int .i64 (rtE xs q)] 71)
            obtain ⟨Z, hZ⟩ : ∃ Z, Z = lv xs q := ⟨_, rfl⟩
            rw [← hZ] at hcl hne hu3 b9
            have HU3 := Lib.hid hu3
            clear hu hu3 hlk hZ hR
            go_wp2_with fail
            go_roundw
            case rel => exact ⟨q + 1, by omega, by go_num, HU3.out, b9⟩
            case measure => simp [intOf]; omega
        · obtain rfl : q = xs.length := by omega
          have HU := Lib.hid hu
          have hO2 := HO.out.below hbq
          have HRO2 := Lib.hid (HRO.out.below hbq (Nat.le_refl _))
          have ⟨⟨zO, cO⟩, fO⟩ := hO2
          have HO2 := Lib.hid hO2
          have HUL : Hid ((fmap (cntE xs xs.length k) D).length = D) := fmap_len _ _
          clear hu hO2
          go_wp2_with (at_builtin; refine push_row (v := .slice av k cv) (C := W1.heap.size) rfl _ _ rfl rfl HRO2.out HU.out rfl h63 (by omega) hbqs (fun c e => (HRO.out.blk.1 c e)) (fun i hi c e => HRO.out.blk.2 i hi c e) ?_)
          intro v5 w5 ho5 hg5
          have hlo := HRO2.out.o.lt
          have hO5 := HO2.out.kept hg5 (ne_own (fun c e => by have := (hlo c e).1; omega))
          have hV5 := (HV.out.below hbq).kept hg5 (ne_own (fun c e => by have := (hlo c e).1; omega))
          have b5 : Below w2.heap.size w2 w5 := (hb.trans (hbq.mono hbs)).trans (below_of_grown hg5 (fun c e => by have := (hlo c e).1; have := HB4.out; omega) (by omega))
          obtain ⟨a5, c5, e5⟩ := ho5.o.form
          subst e5
          have ⟨⟨zO5, cO5⟩, fO5⟩ := hO5
          obtain ⟨L5, hL5⟩ : ∃ L5, L5 = (sqM (cntE xs xs.length) k D ++ [fmap (cntE xs xs.length k) D]).length := ⟨_, rfl⟩
          rw [← hL5] at ho5 ⊢
          have ho6 := ho5.setBelow (p := ⟨b4, 0, none⟩) (show b4 < b4 + 1 by omega) (.slice a5 L5 c5)
          have hO6 := hO5.set (.slice a5 L5 c5)
          have hV6 := hV5.other (p := ⟨b4, 0, none⟩) (.slice a5 L5 c5) (show w.heap.size + 1 ≠ b4 by omega)
          have b6 := b5.setCell (p := ⟨b4, 0, none⟩) (show w2.heap.size ≤ b4 by have := HB4.out; omega) (.slice a5 L5 c5)
          have H6 := Lib.hid (And.intro ho6 (And.intro hO6 (And.intro hV6 b6)))
          clear ho5 hg5 hlo hO5 hV5 ho6 hO6 hV6 hL5
          go_wp2_with fail
          go_roundw
          case rel => exact ⟨k + 1, _, _, by omega, by go_num, H6.out.2.1, by rw [HN.out]; exact H6.out.1, H6.out.2.2.1, (by have h := H6.out.2.2.2; rw [← HB4.out] at h; exact h)⟩
          case measure => simp [intOf]; omega
    · obtain rfl : k = D := by omega
      have ⟨⟨zO, cO⟩, fO⟩ := hO
      have ⟨⟨zV, cV⟩, fV⟩ := hV
      have bw := b2.trans (hb.mono (by omega))
      clear hro hO hV
      go_wp2_with fail
      have hV2 := HV.out.set (.slice av k cv)
      have b2 := bw.setCell (p := ⟨w.heap.size + 1, 0, none⟩) (by simp) (.slice av k cv)
      refine bodyPost_ret (v := .agg #[.slice av k cv]) (by have ⟨⟨_, q1⟩, _⟩ := hV2; simp [results, Try.results58, go_sem, q1]) rfl ?_
      exact ⟨av, cv, vl, rfl, (HRO.out.setBelow (show w.heap.size + 1 < b4 + 1 by omega) _).mono (by omega), b2⟩

theorem RowsP.cut {w : World} {B : Nat} {v : Value} {vl : List Value} {xss : List (List Int)} (h : RowsP w B v vl xss) {U : Nat} (hU : w.heap.size ≤ U) : (∀ c, v.ownBlock = some c → B ≤ c ∧ c < U) ∧ ∀ k, k < xss.length → ∀ c, (valAt vl k).ownBlock = some c → B ≤ c ∧ c < U :=
  ⟨fun c e => by have := h.o.lt c e; omega, fun k hk c e => by have := (h.o.row k hk).lt c e; omega⟩
theorem RowsP.touch {lo hi : Nat} {w w' : World} {B : Nat} {v : Value} {vl : List Value} {xss : List (List Int)} (h : RowsP w B v vl xss) (ht : TouchS lo hi w w') (h1 : ∀ c, v.ownBlock = some c → c < lo ∨ hi ≤ c) (h2 : ∀ k, k < xss.length → ∀ c, (valAt vl k).ownBlock = some c → c < lo ∨ hi ≤ c) : RowsP w' B v vl xss := by
  refine ⟨⟨⟨h.o.own.1, ?_⟩, fun k hk => (h.o.row k hk).touch ht (h2 k hk), h.o.apart⟩, h.pair⟩
  rcases h.o.own.2 with hn | ⟨g, cap, cur, e, hb', hg, rest⟩
  · exact .inl hn
  · refine .inr ⟨g, cap, cur, e, hb', ?_, rest⟩
    rw [ht.block g (Array.getElem?_eq_some_iff.1 hg).1 (h1 g (by rw [e]; rfl))]
    exact hg
theorem RowsP.kept {w w' : World} {B : Nat} {v : Value} {vl : List Value} {xss : List (List Int)} {row : Option Nat} (h : RowsP w B v vl xss) (hg : w.grownBy w' row) (h1 : ∀ c, v.ownBlock = some c → row ≠ some c) (h2 : ∀ k, k < xss.length → ∀ c, (valAt vl k).ownBlock = some c → row ≠ some c) : RowsP w' B v vl xss := by
  have e : ∀ u : Value, (∀ c, u.ownBlock = some c → row ≠ some c) → u.ownBlock = none ∨ u.ownBlock ≠ row := fun u hu => by
    cases hv : u.ownBlock with
    | none => exact .inl rfl
    | some c => exact .inr (fun e => hu c hv e.symm)
  exact ⟨⟨World.ownsRow.kept h.o.own hg (e v h1), fun k hk => (h.o.row k hk).kept hg (e _ (h2 k hk)), h.o.apart⟩, h.pair⟩
theorem OwnS.mono {w : World} {B B' g : Nat} {vl : List Value} {xss : List (List Int)} (h : OwnS w B g vl xss) (hB : B' ≤ B) : OwnS w B' g vl xss := ⟨Nat.le_trans hB h.lo, h.hi, h.max, h.cell, h.row, h.apart⟩
theorem TouchS.of_below {B lo hi : Nat} {w w1 w2 : World} (hb : Below w.heap.size w w1) (h : TouchS lo hi w1 w2) : TouchS lo hi w w2 :=
  ⟨h.os.trans hb.os, h.tape.trans hb.tape, h.output.trans hb.output, Nat.le_trans hb.size h.size, fun k hk hn => (h.block k (Nat.lt_of_lt_of_le hk hb.size) hn).trans (hb.block k hk)⟩

/-- one row more at the end -/
theorem RowsP.snoc {w w' : World} {B C : Nat} {v v' u : Value} {vl : List Value} {xss : List (List Int)} {r : List Int} (h : RowsP w B v vl xss) (hr : OwnI w C u r) (hBC : B ≤ C) (hvC : ∀ c, v.ownBlock = some c → c < C) (hrC : ∀ k, k < xss.length → ∀ c, (valAt vl k).ownBlock = some c → c < C)
    (ho : w'.ownsRow B 22 1 v' (xss.length + 1) (vl ++ [u])) (hg : w.grownBy w' v.ownBlock) (hv' : v'.ownBlock = v.ownBlock ∨ ∃ m, w.heap.size ≤ m ∧ v'.ownBlock = some m) : RowsP w' B v' (vl ++ [u]) (xss ++ [r]) := by
  have hl := h.o.vlen
  have e1 : ∀ k, k < xss.length → valAt (vl ++ [u]) k = valAt vl k := fun k hk => by rw [valAt, valAt, List.getD_eq_getElem?_getD, List.getD_eq_getElem?_getD, List.getElem?_append_left (by omega)]
  have e2 : valAt (vl ++ [u]) xss.length = u := by rw [← hl]; simp [valAt]
  have r1 : ∀ k, k < xss.length → rowL (xss ++ [r]) k = rowL xss k := fun k hk => by rw [rowL, rowL, List.getD_eq_getElem?_getD, List.getD_eq_getElem?_getD, List.getElem?_append_left hk]
  have r2 : rowL (xss ++ [r]) xss.length = r := by simp [rowL]
  have hur := hr.lt
  refine ⟨⟨by rw [List.length_append, List.length_singleton]; exact ho, fun k hk => ?_, fun k hk c hc hc2 => ?_⟩, fun j k hjk hk c hc => ?_⟩
  · rw [List.length_append, List.length_singleton] at hk
    by_cases e : k = xss.length
    · subst e
      rw [e2, r2]
      exact (hr.mono hBC).kept hg (own_ne (fun c h1 h3 => by have := hvC c h3; have := (hur c h1).1; omega))
    · rw [e1 k (by omega), r1 k (by omega)]
      exact (h.o.row k (by omega)).kept hg (own_ne (fun c h1 h3 => h.o.apart k (by omega) c h1 h3))
  · rw [List.length_append, List.length_singleton] at hk
    by_cases e : k = xss.length
    · subst e
      rw [e2] at hc
      have h1 := hur c hc
      rcases hv' with h3 | ⟨m, hm, h3⟩
      · rw [h3] at hc2; have := hvC c hc2; omega
      · rw [h3] at hc2; simp only [Option.some.injEq] at hc2; omega
    · rw [e1 k (by omega)] at hc
      have h1 := ((h.o.row k (by omega)).lt c hc).2
      rcases hv' with h3 | ⟨m, hm, h3⟩
      · rw [h3] at hc2; exact h.o.apart k (by omega) c hc hc2
      · rw [h3] at hc2; simp only [Option.some.injEq] at hc2; omega
  · rw [List.length_append, List.length_singleton] at hk
    rw [e1 j (by omega)] at hc
    by_cases e : k = xss.length
    · subst e
      rw [e2]
      intro h3
      have := hrC j (by omega) c hc
      have := (hur c h3).1
      omega
    · rw [e1 k (by omega)]
      exact h.pair j k hjk (by omega) c hc
/-- an append of one row at a step of a region that draws its order; the new row's value lies somewhere -/
theorem step_push_row {ops : Array Oper} {o : Oper} {a : Act} {K : Act → World → Prop} {Q : Exit → Act → World → Prop} {E : Prop} (hgd : o.guard = none) (s x : Operand)
    (ho : o.op = .call { callee := .builtin .append, args := #[s, x], argTypes := #[37, 37] }) {W : World} {B C g n m cp : Nat} {ar : Option Addr} {v : Value} {vl : List Value} {xss : List (List Int)} {r : List Int}
    (hs : a.eval s = v) (hx : a.eval x = .slice (some ⟨g, 0, none⟩) 1 1) (hro : RowsP W B v vl xss) (hn : xss.length = n) (hrow : OwnI W C (.slice ar m cp) r) (hz : W.cell? ⟨g, 0, none⟩ = some (.slice ar m cp)) (h63 : n ≤ 1048576) (hBC : B ≤ C) (hC : C ≤ W.heap.size)
    (hvC : ∀ c, v.ownBlock = some c → c < C) (hrC : ∀ k, k < xss.length → ∀ c, (valAt vl k).ownBlock = some c → c < C)
    (h : ∀ g' cap w', RowsP w' B (.slice (some ⟨g', 0, none⟩) (n + 1) cap) (vl ++ [.slice ar m cp]) (xss ++ [r]) → W.grownBy w' v.ownBlock → K (a.put o.dst (.slice (some ⟨g', 0, none⟩) (n + 1) cap)) w') :
    if Region.wanted o (yielded ops a.tmps) = true then Oper.wp Try.prog o a W K Q else E := by
  subst hn
  obtain ⟨j0, hj0, hy0, hy1, hy2⟩ := info_parts infoSlice
  refine step_append_lies W hgd s x 37 ho B 22 j0 (.slice none 0 0) 1 24 Try.underlying37 hj0 hy0 hy1 hy2 rfl (by decide) v xss.length vl hs hro.o.own ⟨g, 0, none⟩ 1 1 [.slice ar m cp] hx rfl ?_ (by intro u hu; simp at hu; subst hu; rfl) (by omega) (by unfold maxLen; omega) (by omega) (by omega) W.heap.size rfl ?_
  · intro j u hj
    obtain ⟨hlt, e⟩ := List.getElem?_eq_some_iff.1 hj
    have h0 : j = 0 := by simpa using hlt
    subst h0
    simp at e
    subst e
    rw [Addr.add_lit]; simpa using hz
  · intro g' cap w' ho2 hg hat _
    refine h g' cap w' (hro.snoc hrow hBC hvC hrC ho2 hg ?_) hg
    rcases hat with h1 | h1
    · exact .inl (by rw [h1]; rfl)
    · exact .inr ⟨g', by omega, rfl⟩

theorem l1Own_any (a : Option Addr) (xs : List Int) (cap : Nat) (w : World) (hx : Rd w a xs) (hn : xs.length ≤ 1048576) :
    Calls Try.prog 122 #[.slice a xs.length cap] w fun e w' => ∃ a' cap', e = .returned (.slice a' xs.length cap') ∧ OwnI w' w.heap.size (.slice a' xs.length cap') xs ∧ Below w.heap.size w w' := by
  obtain ⟨i0, hi, hz0, hz1, hz2⟩ := info_parts infoInt
  have hown : (w.alloc (.cells #[] 3)).ownsRow w.heap.size 3 1 (.slice (some ⟨w.heap.size, 0, none⟩) 0 0) 0 [] := World.ownsRow_lit w #[] 0 (Nat.le_refl _) (by simp [maxLen]) (by simp)
  cases a with
  | none =>
    have h0 : xs = [] := by
      rcases xs with _ | ⟨x, t⟩
      · rfl
      · obtain ⟨b, off, e, _⟩ := hx.cell 0 (by simp)
        cases e
    subst h0
    go_enter Try.func122, Try.ntmps122
    go_wp2_with (at_builtin; refine wpList_append_none rfl _ _ 22 rfl w.heap.size 3 i0 1 Try.underlying22 hi _ 0 _ [] rfl hown rfl ?_)
    go_wp2_with fail
    go_ret
    exact ⟨_, _, rfl, hown, (by repeat (first | exact Below.refl _ _ | assumption | refine Below.alloc ?_ (by first | exact Nat.le_refl _ | (simp only [World.size_alloc, World.size_setCell, World.size_drew]; omega) | omega) _ | refine Below.setCell ?_ (by first | exact Nat.le_refl _ | (simp only [World.size_alloc, World.size_setCell, World.size_drew]; omega) | omega) _ | refine Below.drew ?_))⟩
  | some ad =>
    have hx1 := hx.alloc (.cells #[] 3)
    go_enter Try.func122, Try.ntmps122
    go_wp2_with (at_builtin; refine wpList_append_own _ rfl _ _ 22 rfl w.heap.size 3 i0 (.int .i64 0) 1 8 Try.underlying22 hi hz0 hz1 hz2 rfl (by decide) _ 0 [] rfl hown ad xs.length cap (xs.map (Value.int .i64)) rfl (by simp) ?c1 ?c2 ?c3 ?c4 ?c5 ?_)
    case c1 => exact rd_news hx1
    case c2 => exact ints_one xs
    case c3 => unfold maxLen; omega
    case c4 => omega
    case c5 => simp
    · intro v' w1 hown' hgrow _
      try simp only [Nat.zero_add, List.nil_append] at hown'
      have hb : Below w.heap.size w w1 := ((Below.refl _ _).alloc (Nat.le_refl _) _).grown hgrow (by simp) (fun b e => by simp [Value.ownBlock] at e; omega)
      obtain ⟨a', cap', rfl⟩ := OwnI.form (xs := xs) hown'
      have HO := Lib.hid hown'
      clear hown' hgrow hown
      go_wp2_with fail
      go_ret
      exact ⟨a', cap', rfl, HO.out, hb⟩

set_option maxRecDepth 100000 in
set_option maxHeartbeats 1000000 in
theorem maOwn_any (a : Option Addr) (xss : List (List Int)) (cap n m : Nat) (f : Nat → Nat → Int) (hf : xss = sqM f n m) (w : World) (hx : RdS w a xss) (hn : n ≤ 13) (hm : m ≤ 13) :
    Calls Try.prog 121 #[.agg #[.slice a n cap]] w fun e w' => ∃ a0 c0 vl, e = .returned (.agg #[.slice a0 n c0]) ∧ RowsP w' w.heap.size (.slice a0 n c0) vl (sqM f n m) ∧ Below w.heap.size w w' := by
  subst hf
  have hV0 := Var1.new (w.alloc (.cells #[.slice a n cap] 39)) (.slice none 0 0) 39
  have hO := Var1.new ((w.alloc (.cells #[.slice a n cap] 39)).alloc (.cells #[.slice none 0 0] 39)) (.slice none 0 0) 39
  have hb0 : Below w.heap.size w (((w.alloc (.cells #[.slice a n cap] 39)).alloc (.cells #[.slice none 0 0] 39)).alloc (.cells #[.slice none 0 0] 39)) := (by repeat (first | exact Below.refl _ _ | assumption | refine Below.alloc ?_ (by first | exact Nat.le_refl _ | (simp only [World.size_alloc, World.size_setCell, World.size_drew]; omega) | omega) _ | refine Below.setCell ?_ (by first | exact Nat.le_refl _ | (simp only [World.size_alloc, World.size_setCell, World.size_drew]; omega) | omega) _ | refine Below.drew ?_))
  have hV := hV0.alloc (.cells #[.slice none 0 0] 39)
  clear hV0
  simp only [World.size_alloc] at hV hO
  have HX := Lib.hid hx
  clear hx
  go_enter Try.func121, Try.ntmps121
  go_wp2_with fail
  go_loopw [10] (fun i wr => ∃ (k : Nat) (v : Value) (vl : List Value), k ≤ n ∧ i = .int .i64 k ∧ Var1 wr (w.heap.size + 2) v ∧ RowsP wr (w.heap.size + 3) v vl (sqM f k m) ∧ Var1 wr (w.heap.size + 1) (.slice none 0 0) ∧ Below w.heap.size w wr) (fun i _ => n - (intOf i).toNat)
  case atStart => exact ⟨0, .slice none 0 0, [], Nat.zero_le _, rfl, hO, RowsP.nil _ _, hV, hb0⟩
  case round =>
    clear hV hO hb0
    obtain ⟨k, v, vl, hk, rfl, hO, hro, hV, hb⟩ := hrel
    have hbs := hb.size
    have ⟨⟨zO, cO⟩, fO⟩ := hO
    obtain ⟨av, cv, ev⟩ := hro.o.form
    rw [sqM_len] at ev
    subst ev
    have HRO := Lib.hid hro
    have HO := Lib.hid hO
    have HV := Lib.hid hV
    by_cases hlt : k < n
    · obtain ⟨b0, off0, a', cap', rfl, hbl, hc, hr⟩ := (HX.out.below hb).row k (by rw [sqM_len]; exact hlt)
      rw [sqM_row hlt, fmap_len] at hc
      rw [sqM_row hlt] at hr
      have k1 : (k : Int) < (n : Int) := by omega
      have HN : Hid (sqM f (k+1) m = sqM f k m ++ [fmap (f k) m]) := sqM_succ _ _ _
      have HC : Hid (∀ W, Below wr.heap.size wr W → Calls Try.prog 122 #[.slice a' m cap'] W fun e w' => ∃ a2 c2, e = .returned (.slice a2 m c2) ∧ OwnI w' W.heap.size (.slice a2 m c2) (fmap (f k) m) ∧ Below W.heap.size W w') := fun W h => by
        have h1 := l1Own_any a' (fmap (f k) m) cap' W (hr.below h) (by rw [fmap_len]; omega)
        rw [fmap_len] at h1
        exact h1
      have hsz : w.heap.size + 3 ≤ wr.heap.size := by omega
      clear hro hO hV hr
      go_wp2_with fail
      go_region_law (first | (have _g := HR2; refine step_push_row (by rfl) _ _ (by rfl) (by rfl) (by rfl) (HR2.out.below ((Below.refl _ _).alloc (Nat.le_refl _) _) (Nat.le_refl _)) (sqM_len _ _ _) (ho2.alloc _) (by simp) (by omega) (by omega) (by simp; omega) (HRO.out.blk.1) (HRO.out.blk.2) ?_; intro g5 c5 w5 ho5 hg5; have hg6 := grown_alloc_set hg5; have hO5 := HO2.out.kept hg6 (ne_own (fun c e => by have := (HR2.out.o.lt c e).1; omega)); have ⟨⟨zO5, cO5⟩, fO5⟩ := hO5) | (go_simp; go_at_call 122; refine (HC.out _ (Joins.below_draws _ _ _)).mono ?_; rintro e w2 ⟨a2, c2, rfl, ho2', hb2⟩; have ht2 := (Joins.below_draws _ _ _).trans hb2; have hs2 := ht2.size; have ho2 := ho2'.mono (B' := wr.heap.size) (by simp); have HR2 := Lib.hid (HRO.out.below ht2 (Nat.le_refl _)); have HO2 := Lib.hid (HO.out.below ht2); have ⟨⟨zO2, cO2⟩, fO2⟩ := HO2.out; clear ho2' hb2))
      all_goals
        have hlo := HR2.out.o.lt
        have hV5 := (HV.out.below ht2).kept hg6 (ne_own (fun c e => by have := (hlo c e).1; omega))
        have b5 : Below w.heap.size w w5 := (hb.trans (ht2.mono hbs)).trans (below_of_grown hg6 (fun c e => by have := (hlo c e).1; omega) (by omega))
        have ho6 := ho5.setBelow (p := ⟨w.heap.size + 2, 0, none⟩) (show w.heap.size + 2 < w.heap.size + 3 by omega) (.slice (some ⟨g5, 0, none⟩) (k + 1) c5)
        have hO6 := hO5.set (.slice (some ⟨g5, 0, none⟩) (k + 1) c5)
        have hV6 := hV5.other (p := ⟨w.heap.size + 2, 0, none⟩) (.slice (some ⟨g5, 0, none⟩) (k + 1) c5) (show w.heap.size + 1 ≠ w.heap.size + 2 by omega)
        have b6 := b5.setCell (p := ⟨w.heap.size + 2, 0, none⟩) (show w.heap.size ≤ w.heap.size + 2 by omega) (.slice (some ⟨g5, 0, none⟩) (k + 1) c5)
        have H6 := Lib.hid (And.intro ho6 (And.intro hO6 (And.intro hV6 b6)))
        clear ho5 hg5 hg6 hlo hO5 hV5 ho6 hO6 hV6 HR2 ho2 HO2
        go_wp2_with fail
        go_roundw
        case rel => exact ⟨k + 1, _, _, by omega, by go_num, H6.out.2.1, by rw [HN.out]; exact H6.out.1, H6.out.2.2.1, H6.out.2.2.2⟩
        case measure => simp [intOf]; omega
    · obtain rfl : k = n := by omega
      have ⟨⟨zV, cV⟩, fV⟩ := hV
      clear hro hO hV
      go_wp2_with fail
      have hV2 := HV.out.set (.slice av k cv)
      have b2 := hb.setCell (p := ⟨w.heap.size + 1, 0, none⟩) (by simp) (.slice av k cv)
      refine bodyPost_ret (v := .agg #[.slice av k cv]) (by have ⟨⟨_, q1⟩, _⟩ := hV2; simp [results, Try.results121, go_sem, q1]) rfl ?_
      exact ⟨av, cv, vl, rfl, (HRO.out.setBelow (show w.heap.size + 1 < w.heap.size + 3 by omega) _).mono (by omega), b2⟩

theorem lit_own (w : World) (x : Int) (B : Nat) (hB : B ≤ w.heap.size) : (w.alloc (.cells #[.int .i64 x] 3)).ownsRow B 3 1 (.slice (some ⟨w.heap.size, 0, none⟩) 1 1) 1 [.int .i64 x] := by
  have h := (OwnI.new w [x] (by simp)).mono hB
  exact h

/-- an append of a whole slice of integers, a nil one too, at a step of a region that draws its order -/
theorem step_append_src {P : Program} {w : World} {ops : Array Oper} {o : Oper} {a : Act} {K : Act → World → Prop} {Q : Exit → Act → World → Prop} {E : Prop} (hgd : o.guard = none) (s x : Operand) (t : TypeId)
    (ho : o.op = .call { callee := .builtin .append, args := #[s, x], argTypes := #[t, t] })
    (base : Nat) (e : TypeId) (i : TypeInfo) (z : Value) (bytes : Nat) (ht : P.underlying t = some (.slice e)) (hi : P.info? e = some i) (hz : i.zero = some z)
    (hsize : i.size = 1) (hby : i.bytes = bytes) (hzs : z.cells.size = 1)
    (v : Value) (n : Nat) (xs : List Value) (hs : a.eval s = v) (hown : w.ownsRow base e 1 v n xs)
    (ad : Option Addr) (c : Nat) (R : List Int) (hx : a.eval x = .slice ad R.length c) (hrd : Rd w ad R)
    (h63 : n + R.length ≤ maxLen) (hbytes : (n + R.length) * bytes ≤ 140737488355328) (hbase : base ≤ w.heap.size)
    (h : ∀ v' w', w'.ownsRow base e 1 v' (n + R.length) (xs ++ R.map (Value.int .i64)) → w.grownBy w' v.ownBlock → K (a.put o.dst v') w') :
    if Region.wanted o (yielded ops a.tmps) = true then Oper.wp P o a w K Q else E := by
  have hw : Region.wanted o (yielded ops a.tmps) = true := by simp [Region.wanted, hgd]
  rw [if_pos hw]
  cases ad with
  | some ad => exact wp_append_own w s x t ho base e i z 1 bytes ht hi hz hsize hby hzs (by omega) v n xs hs hown ad R.length c (R.map (Value.int .i64)) hx (by rw [List.length_map, Nat.mul_one]) (rd_news hrd) (ints_one R) h63 hbytes hbase (fun v' w' h2 h3 _ => h v' w' h2 h3)
  | none =>
    have hR : R = [] := by
      rcases R with _ | ⟨y, ys⟩
      · rfl
      · obtain ⟨b, off, e, _⟩ := hrd.cell 0 (by simp)
        cases e
    subst hR
    have hrun : (Builtin.append_ #[t, t] o.type #[v, .slice none 0 c]).run P w = .ok v w := by
      rcases hown.2 with ⟨rfl, rfl⟩ | ⟨g, cap, cur, rfl, _, _, hnc, _⟩
      · simp [Builtin.append_, run_underlying ht, sizeOf, typeInfo, hi, Builtin.lenOf, Builtin.firstCells]
      · simp [Builtin.append_, run_underlying ht, sizeOf, typeInfo, hi, Builtin.lenOf, Builtin.firstCells, hnc, storeCells]
    have h2 := h v w (by simpa using hown) (World.grownBy.refl _ _)
    have hx' : a.eval x = .slice none 0 c := hx
    unfold Oper.wp
    simp [execOp, ho, resolve, invoke, builtin, hs, hx', hrun, Result.andThen]
    exact h2

set_option maxRecDepth 100000 in
theorem maNarrow_any (a : Option Addr) (xs : List Int) (cap x B : Nat) (w : World) (ho : OwnI w B (.slice a xs.length cap) xs) (hB : B ≤ w.heap.size) (hx : x < xs.length) (hn : xs.length ≤ 13) :
    Calls Try.prog 123 #[.slice a xs.length cap, .int .i64 (x : Int)] w fun e w' => ∃ a' c', e = .returned (.slice a' (xs.length - 1) c') ∧ OwnI w' w.heap.size (.slice a' (xs.length - 1) c') (xs.take x ++ xs.drop (x+1)) ∧ Below w.heap.size w w' := by
  obtain ⟨i0, hi, hz0, hz1, hz2⟩ := info_parts infoInt
  have hcap := ho.capLe
  have HX := Lib.hid ho.rd
  obtain ⟨b, off, rfl, hbl, _⟩ := ho.rd.cell 0 (by omega)
  obtain ⟨J, hJ⟩ : ∃ J, J = x + 1 := ⟨_, rfl⟩
  have HJ := Lib.hid hJ
  have hcast : ((x : Int) + 1) = (J : Int) := by omega
  have hJn : J ≤ xs.length := by omega
  have hJc : J ≤ cap := by omega
  have hxc : x ≤ cap := by omega
  have hxn : x ≤ xs.length := by omega
  have HD : Hid (xs.take x ++ xs.drop (x+1) = xs.take x ++ xs.drop J) := by rw [hJ]; rfl
  have HL : Hid ((xs.take x ++ xs.drop J).length = xs.length - 1) := by rw [Hid, List.length_append, List.length_take, List.length_drop]; omega
  have HOT : Hid (∀ W, Below w.heap.size w W → Calls Try.prog 122 #[.slice (some ⟨b, off, none⟩) x cap] W fun e w' => ∃ a2 c2, e = .returned (.slice a2 x c2) ∧ OwnI w' W.heap.size (.slice a2 x c2) (xs.take x) ∧ Below W.heap.size W w') := fun W h => by
    have h1 := l1Own_any (some ⟨b, off, none⟩) (xs.take x) cap W ((HX.out.below h).take x) (by rw [List.length_take]; omega)
    rw [show (xs.take x).length = x by rw [List.length_take]; omega] at h1
    exact h1
  have HDR : Hid (∀ W A, Below w.heap.size w W → (if cap = J then some (⟨b, off, none⟩ : Addr) else some ⟨b, off + J, none⟩) = some A → Rd W (some A) (xs.drop J)) := fun W A hb hA => by
    have h1 := (HX.out.below hb).drop J
    by_cases h9 : cap = J
    · rw [if_pos h9] at hA
      have e : xs.drop J = [] := List.drop_eq_nil_of_le (by omega)
      rw [e]
      exact ⟨by simp, fun k hk => by simp at hk⟩
    · rw [if_neg h9] at hA
      simp only [Option.some.injEq] at hA
      subst hA
      rw [Addr.add_lit] at h1
      exact h1
  obtain ⟨A, hA⟩ : ∃ A : Addr, (if cap = J then some (⟨b, off, none⟩ : Addr) else some ⟨b, off + J, none⟩) = some A := by
    by_cases h9 : cap = J
    · exact ⟨_, if_pos h9⟩
    · exact ⟨_, if_neg h9⟩
  have HA := Lib.hid hA
  have htl : (xs.take x).length = x := by rw [List.length_take]; omega
  have HTL := Lib.hid htl
  have hxJ : x + (xs.length - J) = xs.length - 1 := by omega
  have HXJ := Lib.hid hxJ
  have hwr : IntKind.i64.wrap (J : Int) = (J : Int) := by rw [i64_wrap, IntWalk.wrap64_in _ ⟨by omega, by omega⟩]
  clear hJ ho htl hxJ
  go_enter Try.func123, Try.ntmps123
  go_wp2_with fail
  go_region_law (first | (have _g := ho2; refine step_append_src (by rfl) _ _ _ (by rfl) w.heap.size 3 i0 (.int .i64 0) 8 Try.underlying22 hi hz0 hz1 hz2 rfl (.slice a2 x c2) x ((xs.take x).map (Value.int .i64)) (by rfl) (by first | exact ho2 | exact ownsRow_bel ho2 (Below.refl _ _).drew (Nat.le_refl _)) (some A) (cap - J) (xs.drop J) (by simp [Act.eval, Act.put]) (HDR.out _ A (by first | exact ht2 | exact ht2.drew) HA.out) (by rw [List.length_drop]; unfold maxLen; omega) (by rw [List.length_drop]; omega) (by have := ht2.size; omega) ?_; intro v3 w3 ho3 hg3) | (go_simp; go_at_call 122; refine (HOT.out _ (Joins.below_draws _ _ _)).mono ?_; rintro e w2 ⟨a2, c2, rfl, ho2', hb2⟩; have ht2 := (Joins.below_draws _ _ _).trans hb2; have ho2 : w2.ownsRow w.heap.size 3 1 (.slice a2 x c2) x ((xs.take x).map (Value.int .i64)) := (by have h := ho2'.mono (B' := w.heap.size) (by simp); unfold OwnI at h; rw [HTL.out] at h; exact h); clear ho2' hb2))
  all_goals
    have hU := World.ownsRow.lt ho2
    have b3 : Below w.heap.size w w3 := ht2.trans (below_of_grown hg3 (fun c e => (hU c e).1) ht2.size)
    have o3 : OwnI w3 w.heap.size v3 (xs.take x ++ xs.drop J) := by
      unfold OwnI
      rw [List.map_append, List.length_append, HTL.out]
      exact ho3
    obtain ⟨a3, c3, e3⟩ := o3.form
    rw [HL.out] at e3
    subst e3
    clear ho3 hg3 hU ho2
    go_wp2_with fail
    go_ret
    exact ⟨a3, c3, rfl, by rw [HD.out]; exact o3, b3⟩

set_option maxRecDepth 100000 in
theorem maTop_any (a : Option Addr) (xss : List (List Int)) (cap : Nat) (w : World) (hx : RdS w a xss) (hm : mxB xss = true) :
    Calls Try.prog 119 #[.agg #[.slice a xss.length cap]] w fun e w' => e = .returned (.int .i64 (topI xss)) ∧ Below w.heap.size w w' := by
  have HM := Lib.hid hm
  have h12 := mxB_small hm
  have HX := Lib.hid hx
  clear hm
  go_enter Try.func119, Try.ntmps119
  go_wp2_with fail
  go_loop [8] (fun i => ∃ k : Nat, k ≤ xss.length ∧ i = .int .i64 k ∧ Hid (∀ j, j < k → atM xss j (xss.length - 1) = 0)) (fun i => xss.length - (intOf i).toNat)
  case atStart => exact ⟨0, Nat.zero_le _, rfl, fun j hj => by omega⟩
  case round =>
    obtain ⟨k, hk, rfl, HZ⟩ := hrel
    by_cases hlt : k < xss.length
    · obtain ⟨b, off, a', cap', rfl, hbl, hc, hr⟩ := (HX.out.below (show Below w.heap.size w (w.alloc (.cells #[.slice a xss.length cap] 39)) from (by repeat (first | exact Below.refl _ _ | assumption | refine Below.alloc ?_ (by first | exact Nat.le_refl _ | (simp only [World.size_alloc, World.size_setCell, World.size_drew]; omega) | omega) _ | refine Below.setCell ?_ (by first | exact Nat.le_refl _ | (simp only [World.size_alloc, World.size_setCell, World.size_drew]; omega) | omega) _ | refine Below.drew ?_)))).row k hlt
      have hrl := mxB_len HM.out hlt
      obtain ⟨b2, off2, rfl, hbl2, hc2⟩ := hr.cell (xss.length - 1) (by omega)
      rw [hrl] at hc
      have k1 : (k : Int) < (xss.length : Int) := by omega
      have hcast : ((xss.length : Int) - 1) = ((xss.length - 1 : Nat) : Int) := by omega
      have hnn := (mxB_num HM.out (j := xss.length - 1) hlt (by omega)).1
      have HA : Hid (atM xss k (xss.length - 1) = nth (rowL xss k) (xss.length - 1)) := rfl
      rw [HA.out] at hnn
      by_cases hp : 0 < nth (rowL xss k) (xss.length - 1)
      · have H : Hid (topI xss = (k : Int)) := by
          rw [Hid, topI, if_neg (by omega), topN, firstNZ_at HZ.out (by rw [HA.out]; omega) hlt]
        clear hrl hr
        go_wp2_with fail
        go_ret
        exact ⟨ret_int H.out.symm, (by repeat (first | exact Below.refl _ _ | assumption | refine Below.alloc ?_ (by first | exact Nat.le_refl _ | (simp only [World.size_alloc, World.size_setCell, World.size_drew]; omega) | omega) _ | refine Below.setCell ?_ (by first | exact Nat.le_refl _ | (simp only [World.size_alloc, World.size_setCell, World.size_drew]; omega) | omega) _ | refine Below.drew ?_))⟩
      · have HN : Hid (atM xss k (xss.length - 1) = 0) := by rw [Hid, HA.out]; omega
        clear hrl hr
        go_wp2_with fail
        go_round
        case rel =>
          refine ⟨k + 1, by omega, by go_num, fun j hj => ?_⟩
          by_cases e : j = k
          · rw [e]; exact HN.out
          · exact HZ.out j (by omega)
        case measure => simp [intOf]; omega
    · obtain rfl : k = xss.length := by omega
      have H : Hid (topI xss = -1) := by
        by_cases e : xss.length = 0
        · rw [Hid, topI, if_pos e]
        · exfalso
          have h1 := topN_lt HM.out (by omega)
          rw [topN, firstNZ_all HZ.out] at h1
          omega
      clear hx
      go_wp2_with fail
      go_ret
      exact ⟨ret_int H.out.symm, (by repeat (first | exact Below.refl _ _ | assumption | refine Below.alloc ?_ (by first | exact Nat.le_refl _ | (simp only [World.size_alloc, World.size_setCell, World.size_drew]; omega) | omega) _ | refine Below.setCell ?_ (by first | exact Nat.le_refl _ | (simp only [World.size_alloc, World.size_setCell, World.size_drew]; omega) | omega) _ | refine Below.drew ?_))⟩

theorem maTotal_any (a : Option Addr) (xs : List Int) (cap : Nat) (w : World) (hx : Rd w a xs) (hs : xs.length ≤ 1048576) (hv : ∀ j, j < xs.length → 0 ≤ nth xs j ∧ nth xs j ≤ 12) :
    Calls Try.prog 120 #[.slice a xs.length cap] w fun e w' => e = .returned (.int .i64 (totR xs)) ∧ w = w' := by
  have HV := Lib.hid hv
  have HB : Hid (∀ k, k ≤ xs.length → 0 ≤ totI xs k ∧ totI xs k ≤ 12 * (k : Int)) := by
    intro k
    induction k with
    | zero => intro _; simp [totI]
    | succ k ih =>
      intro hk
      have h1 := ih (by omega)
      have h2 := hv k (by omega)
      rw [totI]; omega
  clear hv
  go_enter Try.func120, Try.ntmps120
  go_wp2_with fail
  go_loop [3, 8] (fun m i => ∃ k : Nat, k ≤ xs.length ∧ i = .int .i64 k ∧ m = .int .i64 (totI xs k)) (fun _ i => xs.length - (intOf i).toNat)
  case atStart => exact ⟨0, Nat.zero_le _, rfl, rfl⟩
  case round =>
    obtain ⟨k, hk, rfl, rfl⟩ := hrel
    have ⟨h1, h2⟩ := HB.out k hk
    by_cases hlt : k < xs.length
    · obtain ⟨b, off, rfl, hbl, hc⟩ := hx.cell k hlt
      have ⟨h3, h4⟩ := HV.out k hlt
      have HN : Hid (totI xs (k+1) = totI xs k + nth xs k) := rfl
      go_wp2_with fail
      go_round
      case rel => exact ⟨k + 1, by omega, by go_num, val_int (by rw [HN.out])⟩
      case measure => simp [intOf]; omega
    · obtain rfl : k = xs.length := by omega
      go_wp2_with fail
      go_ret
      exact ⟨rfl, rfl⟩

set_option maxRecDepth 100000 in
set_option maxHeartbeats 2000000 in
theorem maShrink_any (a : Option Addr) (xss : List (List Int)) (cap : Nat) (w : World) (hx : RdC w a xss) (hm : topB xss = true) :
    Calls Try.prog 94 #[.agg #[.slice a xss.length cap]] w fun e w' => ∃ a0 c0 vl, e = .returned (.tuple #[.agg #[.slice a0 (shL xss).length c0], .int .i64 (topV xss)]) ∧ RowsP w' w.heap.size (.slice a0 (shL xss).length c0) vl (shL xss) ∧ Below w.heap.size w w' := by
  have hlen := hx.rd.len
  have hV := Var1.new (w.alloc (.cells #[.slice a xss.length cap] 39)) (.slice none 0 0) 39
  have hb0 : Below w.heap.size w ((w.alloc (.cells #[.slice a xss.length cap] 39)).alloc (.cells #[.slice none 0 0] 39)) := (by repeat (first | exact Below.refl _ _ | assumption | refine Below.alloc ?_ (by first | exact Nat.le_refl _ | (simp only [World.size_alloc, World.size_setCell, World.size_drew]; omega) | omega) _ | refine Below.setCell ?_ (by first | exact Nat.le_refl _ | (simp only [World.size_alloc, World.size_setCell, World.size_drew]; omega) | omega) _ | refine Below.drew ?_))
  have hA : Box1 ((w.alloc (.cells #[.slice a xss.length cap] 39)).alloc (.cells #[.slice none 0 0] 39)) w.heap.size (.slice a xss.length cap) := (Box1.new w _ _).below ((Below.refl _ _).alloc (Nat.le_refl _) _)
  rw [World.size_alloc] at hV
  have ⟨hmx, hpos⟩ := topB_mx hm
  have h12 := mxB_small hmx
  have htl := topN_lt hmx hpos
  have H2 : Hid (topV xss = ((topN xss : Nat) : Int)) := by rw [Hid, topV, hm]; rfl
  have HTI : Hid (topI xss = ((topN xss : Nat) : Int)) := by rw [Hid, topI, if_neg (by omega)]
  have HE := Lib.hid (mx_eta hmx)
  have HNB := Lib.hid (mxB_num hmx htl (j := xss.length - 1) (by omega))
  have HSH : Hid (shL xss = if totR (rowL xss (topN xss)) = 1 then sqM (shF (atM xss) xss.length (topN xss)) (xss.length - 1) (xss.length - 1) else sqM (decF (atM xss) xss.length (topN xss)) xss.length xss.length) := by rw [Hid, shL, if_pos hm]
  have HMT := Lib.hid (fun W (h : RdS W a xss) => maTop_any a xss cap W h hmx)
  have hS1 := (adB_row (mxB_iff.1 hmx).1 htl)
  have HL : Hid (∀ k, k < xss.length → (rowL xss k).length = xss.length) := fun k hk => mxB_len hmx hk
  have HTOT : Hid (∀ W a' cap', Rd W a' (rowL xss (topN xss)) → Calls Try.prog 120 #[.slice a' xss.length cap'] W fun e w' => e = .returned (.int .i64 (totR (rowL xss (topN xss)))) ∧ W = w') := fun W a' cap' hr => by
    have h := maTotal_any a' (rowL xss (topN xss)) cap' W hr (by rw [mxB_len hmx htl]; omega) (fun j hj => mxB_num hmx htl (by rw [mxB_len hmx htl] at hj; exact hj))
    rw [mxB_len hmx htl] at h
    exact h
  have HOWN := Lib.hid (fun W (h : RdS W a xss) => maOwn_any a xss cap xss.length xss.length (atM xss) HE.out W h (by omega) (by omega))
  have hrowE : ∀ k, k < xss.length → rowL xss k = fmap (atM xss k) xss.length := fun k hk => by
    have h := list_fmap (rowL xss k)
    rw [mxB_len hmx hk] at h
    exact h
  have HRE := Lib.hid hrowE
  obtain ⟨T, hT⟩ : ∃ T, T = topN xss := ⟨_, rfl⟩
  rw [← hT] at htl H2 HSH HNB HTI hS1 HTOT
  obtain ⟨S, hS⟩ : ∃ S, S = totR (rowL xss T) := ⟨_, rfl⟩
  rw [← hS] at HSH hS1 HTOT
  obtain ⟨f, hf⟩ : ∃ f, f = atM xss := ⟨_, rfl⟩
  rw [← hf] at HNB HSH HE HOWN HRE
  rw [HTI.out] at HMT
  have HX := Lib.hid hx
  obtain ⟨N, hN⟩ : ∃ N, N = xss.length := ⟨_, rfl⟩
  have HN := Lib.hid hN
  rw [← hN] at hlen hpos h12 htl HNB HSH HE HOWN HRE HTOT HL HMT hV hb0 hA ⊢
  clear hm hmx hx hT hS hf hrowE hN
  have hcast : ((N : Int) - 1) = ((N - 1 : Nat) : Int) := by omega
  have hN1 : N - 1 < N := by omega
  go_enter Try.func94, Try.ntmps94
  go_wp2_with fail
  refine (HMT.out _ (HX.out.rd.below hb0)).mono ?_
  rintro e w1 ⟨rfl, hb⟩
  have b1 : Below w.heap.size w w1 := hb0.trans (hb.mono (by simp; omega))
  have hV1 := hV.below hb
  have hA1 := hA.below hb
  have ⟨zA1, cA1⟩ := hA1
  have hz1 : w.heap.size + 2 ≤ w1.heap.size := by have := hb.size; simp at this; omega
  obtain ⟨b0, off0, a', cap', rfl, hbl, hc, hr⟩ := (HX.out.rd.below b1).row T (by rw [← HN.out]; exact htl)
  rw [HL.out T htl] at hc
  have HR := Lib.hid hr
  have HV1 := Lib.hid hV1
  clear hb hV hA hb0 hr hV1 HMT
  go_wp2_with fail
  refine (HTOT.out _ _ _ HR.out).mono ?_
  rintro e w' ⟨rfl, rfl⟩
  by_cases hSS : S = 1
  · rw [if_pos hSS] at HSH
    have hgt : ¬ 1 < S := by omega
    have hO1 := Var1.new w1 (.slice none 0 0) 39
    have bb1 : Below w1.heap.size w1 (w1.alloc (.cells #[.slice none 0 0] 39)) := (by repeat (first | exact Below.refl _ _ | assumption | refine Below.alloc ?_ (by first | exact Nat.le_refl _ | (simp only [World.size_alloc, World.size_setCell, World.size_drew]; omega) | omega) _ | refine Below.setCell ?_ (by first | exact Nat.le_refl _ | (simp only [World.size_alloc, World.size_setCell, World.size_drew]; omega) | omega) _ | refine Below.drew ?_))
    have HV2 := Lib.hid (HV1.out.below bb1)
    have HO1 := Lib.hid hO1
    have HB1 := Lib.hid (b1.trans (bb1.mono b1.size))
    have hA2 := hA1.below bb1
    have ⟨zA2, cA2⟩ := hA2
    obtain ⟨b4, hb4⟩ : ∃ b4, b4 = w1.heap.size := ⟨_, rfl⟩
    have HB4 := Lib.hid hb4
    have hz4 : w.heap.size + 2 ≤ b4 := by omega
    rw [← hb4] at HO1
    clear hb4 hO1 bb1 hSS hA2 HOWN HTOT
    go_wp2_with fail
    go_loopw [42] (fun i wr => ∃ (k m : Nat) (v : Value) (vl : List Value), k ≤ N ∧ i = .int .i64 k ∧ (if k ≤ T then m = k else m + 1 = k) ∧ Var1 wr b4 v ∧ RowsP wr (b4 + 1) v vl (sqM (shF f N T) m (N - 1)) ∧ Var1 wr (w.heap.size + 1) (.slice none 0 0) ∧ Below w.heap.size w wr) (fun i _ => N - (intOf i).toNat)
    case atStart => exact ⟨0, 0, .slice none 0 0, [], Nat.zero_le _, rfl, by rw [if_pos (Nat.zero_le _)], HO1.out, RowsP.nil _ _, HV2.out, HB1.out⟩
    case round =>
      rw [← HB4.out]
      obtain ⟨k, m, v, vl, hk, rfl, hmk, hO, hro, hV, hb⟩ := hrel
      have hbs := hb.size
      have hO9 := hO.1.1
      have HRO := Lib.hid hro
      obtain ⟨av, cv, ev⟩ := hro.o.form
      rw [sqM_len] at ev
      subst ev
      have HO := Lib.hid hO
      have HV := Lib.hid hV
      by_cases hlt : k < N
      · have k1 : (k : Int) < (N : Int) := by omega
        obtain ⟨b5, off5, a5, cap5, e5, hbl5, hc5, hr5⟩ := (HX.out.rd.below hb).row k (by rw [← HN.out]; exact hlt)
        simp only [Option.some.injEq, Addr.mk.injEq, and_true] at e5
        obtain ⟨rfl, rfl⟩ := e5
        rw [HL.out k hlt] at hc5
        rw [HRE.out k hlt] at hr5
        by_cases hkT : k = T
        · have hkk : ((k : Int) == (T : Int)) = true := by simp [hkT]
          have HM : Hid (m = k) := by rw [Hid]; rw [if_pos (by omega)] at hmk; exact hmk
          have HKT := Lib.hid hkT
          clear hkT hmk hro hO hV hr5
          go_wp2_with fail
          go_roundw
          case rel => exact ⟨k + 1, m, _, _, by omega, by go_num, by rw [if_neg (by have := HKT.out; omega), HM.out], HO.out, HRO.out, HV.out, hb⟩
          case measure => simp [intOf]; omega
        · have hkk : ((k : Int) == (T : Int)) = false := by simp; omega
          have HSK : Hid (skp T m = k) := by
            rw [Hid, skp]
            by_cases h9 : k ≤ T
            · rw [if_pos h9] at hmk
              rw [if_pos (by omega)]; exact hmk
            · rw [if_neg h9] at hmk
              rw [if_neg (by omega)]; exact hmk
          have HMK : Hid (if k + 1 ≤ T then m + 1 = k + 1 else m + 1 + 1 = k + 1) := by
            rw [Hid]
            by_cases h9 : k ≤ T
            · rw [if_pos h9] at hmk
              rw [if_pos (by omega)]; omega
            · rw [if_neg h9] at hmk
              rw [if_neg (by omega)]; omega
          have hm13 : m ≤ 12 := by
            by_cases h9 : k ≤ T
            · rw [if_pos h9] at hmk; omega
            · rw [if_neg h9] at hmk; omega
          have HNX : Hid (sqM (shF f N T) (m+1) (N - 1) = sqM (shF f N T) m (N - 1) ++ [fmap (shF f N T m) (N - 1)]) := sqM_succ _ _ _
          have HRW : Hid (fmap (fun b => rowU f N T k (skp T b)) (N - 1) = fmap (shF f N T m) (N - 1)) := shF_row HSK.out
          have HC5 := Lib.hid (l1Own_any a5 (fmap (f k) N) cap5 wr hr5 (by rw [fmap_len]; omega))
          rw [fmap_len] at HC5
          obtain ⟨W1, hW1⟩ : ∃ x : World, x = wr := ⟨_, rfl⟩
          subst hW1
          have hsz : w.heap.size + 2 ≤ W1.heap.size := by omega
          clear hmk hro hO hV hr5
          go_wp2_with fail
          refine HC5.out.mono ?_
          rintro e w2 ⟨a2, c2, rfl, ho2, hb2⟩
          have hs2 := hb2.size
          have hpt : ∃ g2, a2 = some ⟨g2, 0, none⟩ := by
            rcases ho2.2 with ⟨e9, h0⟩ | ⟨g9, cap9, cur9, e9, _⟩
            · rw [fmap_len] at h0; omega
            · simp only [Value.slice.injEq] at e9; exact ⟨g9, e9.1⟩
          obtain ⟨g2, rfl⟩ := hpt
          by_cases hcond : k < T ∧ T < N - 1
          · have ⟨hc1', hc2'⟩ := hcond
            have ho2' : w2.ownsRow W1.heap.size 3 1 (.slice (some ⟨g2, 0, none⟩) N c2) N ((fmap (f k) N).map (Value.int .i64)) := by
              have h := ho2
              unfold OwnI at h
              rw [fmap_len] at h
              exact h
            have hst := World.ownsRow.stored ho2' (N - 1) (.int .i64 (f k T))
            have hseq : (fmap (f k) N).set (N - 1) (f k T) = fmap (rowU f N T k) N := by
              rw [list_fmap ((fmap (f k) N).set (N - 1) (f k T))]
              simp only [List.length_set, fmap_len]
              refine fmap_ext (fun b hb => ?_)
              rw [nth_setM (by rw [fmap_len]; exact hN1), fmap_nth _ hb, rowU]
              by_cases e : b = N - 1
              · rw [if_pos e, if_pos ⟨⟨hc1', hc2'⟩, e⟩]
              · rw [if_neg e, if_neg (fun h => e h.2)]
            rw [← List.map_set, hseq] at hst
            have hcT : w2.cell? ⟨g2, T, none⟩ = some (.int .i64 (f k T)) := by
              rw [World.ownsRow.cellAt ho2' T (by omega)]
              simp [fmap, htl]
            have hcN : w2.cell? ⟨g2, N - 1, none⟩ = some (.int .i64 (f k (N - 1))) := by
              rw [World.ownsRow.cellAt ho2' (N - 1) (by omega)]
              simp [fmap, hN1]
            have hfN := World.ownsRow.frozenAt ho2' (N - 1)
            have hgl := World.ownsRow.lt ho2' g2 rfl
            obtain ⟨P, hP⟩ : ∃ P, P = f k T := ⟨_, rfl⟩
            obtain ⟨Q, hQ⟩ : ∃ Q, Q = f k (N - 1) := ⟨_, rfl⟩
            rw [← hP] at hst hcT
            rw [← hQ] at hcN
            obtain ⟨WC, hWC⟩ : ∃ x : World, x = w2.setCell ⟨g2, N - 1, none⟩ (.int .i64 P) := ⟨_, rfl⟩
            have HU : Hid (OwnI WC W1.heap.size (.slice (some ⟨g2, 0, none⟩) N c2) (fmap (rowU f N T k) N)) := by
              rw [Hid, hWC]
              unfold OwnI
              rw [fmap_len]
              exact hst.1
            have bC : Below W1.heap.size W1 WC := by rw [hWC]; exact hb2.setCell (p := ⟨g2, N - 1, none⟩) hgl.1 _
            have hsC : W1.heap.size ≤ WC.heap.size := bC.size
            have t1 : (k : Int) < (T : Int) := by omega
            have t2 : (T : Int) < ((N - 1 : Nat) : Int) := by omega
            clear hst hseq ho2' ho2 hP hQ hcond
            have HNR : Hid (∀ W, Below WC.heap.size WC W → Calls Try.prog 123 #[.slice (some ⟨g2, 0, none⟩) N c2, .int .i64 (T : Int)] W fun e w' => ∃ a' c', e = .returned (.slice a' (N - 1) c') ∧ OwnI w' W.heap.size (.slice a' (N - 1) c') (fmap (shF f N T m) (N - 1)) ∧ Below W.heap.size W w') := fun W h => by
              have h1 := maNarrow_any (some ⟨g2, 0, none⟩) (fmap (rowU f N T k) N) c2 T W1.heap.size W (by rw [fmap_len]; exact HU.out.below h (Nat.le_refl _)) (by have := h.size; omega) (by rw [fmap_len]; exact htl) (by rw [fmap_len]; omega)
              rw [fmap_len, fmap_del htl, HRW.out] at h1
              exact h1
            have hRC := Lib.hid (HRO.out.below bC (Nat.le_refl _))
            have hOC := HO.out.below bC
            have ⟨⟨zOC, cOC⟩, fOC⟩ := hOC
            have HOC := Lib.hid hOC
            have HVC := Lib.hid (HV.out.below bC)
            clear hOC
            subst hWC
            go_wp2_with fail
            go_region_law (first | (have _g := HR2; refine step_push_row (by rfl) _ _ (by rfl) (by rfl) (by rfl) (HR2.out.below ((Below.refl _ _).alloc (Nat.le_refl _) _) (Nat.le_refl _)) (sqM_len _ _ _) (ho3.alloc _) (by simp) (by omega) (by omega) (by simp; omega) (HRO.out.blk.1) (HRO.out.blk.2) ?_; intro g5 c5 w5 ho5 hg5; have hg6 := grown_alloc_set hg5; have hO5 := HO3.out.kept hg6 (ne_own (fun c e => by have := (HR2.out.o.lt c e).1; omega)); have ⟨⟨zO5, cO5⟩, fO5⟩ := hO5) | (go_simp; go_at_call 123; refine (HNR.out _ (Joins.below_draws _ _ _)).mono ?_; rintro e w3 ⟨a3, c3, rfl, ho3', hb3⟩; have ht3 := (Joins.below_draws _ _ _).trans hb3; have hs3 := ht3.size; have ho3 := ho3'.mono (B' := W1.heap.size) (by simp; omega); have HR2 := Lib.hid (hRC.out.below ht3 (Nat.le_refl _)); have HO3 := Lib.hid (HOC.out.below ht3); have ⟨⟨zO3, cO3⟩, fO3⟩ := HO3.out; clear ho3' hb3))
            all_goals
              have hlo := HR2.out.o.lt
              have hV5 := (HVC.out.below ht3).kept hg6 (ne_own (fun c e => by have := (hlo c e).1; omega))
              have b5 : Below w.heap.size w w5 := ((hb.trans (bC.mono hbs)).trans (ht3.mono (Nat.le_trans hbs bC.size))).trans (below_of_grown hg6 (fun c e => by have := (hlo c e).1; omega) (by omega))
              have ho6 := ho5.setBelow (p := ⟨b4, 0, none⟩) (show b4 < b4 + 1 by omega) (.slice (some ⟨g5, 0, none⟩) (m + 1) c5)
              have hO6 := hO5.set (.slice (some ⟨g5, 0, none⟩) (m + 1) c5)
              have hV6 := hV5.other (p := ⟨b4, 0, none⟩) (.slice (some ⟨g5, 0, none⟩) (m + 1) c5) (show w.heap.size + 1 ≠ b4 by omega)
              have b6 := b5.setCell (p := ⟨b4, 0, none⟩) (show w.heap.size ≤ b4 by omega) (.slice (some ⟨g5, 0, none⟩) (m + 1) c5)
              have H6 := Lib.hid (And.intro ho6 (And.intro hO6 (And.intro hV6 b6)))
              clear ho5 hg5 hg6 hlo hO5 hV5 ho6 hO6 hV6 HR2 ho3 HO3
              go_wp2_with fail
              go_roundw
              case rel => exact ⟨k + 1, m + 1, _, _, by omega, by go_num, HMK.out, H6.out.2.1, by rw [HNX.out]; exact H6.out.1, H6.out.2.2.1, H6.out.2.2.2⟩
              case measure => simp [intOf]; omega
          · have hueq : fmap (f k) N = fmap (rowU f N T k) N := fmap_ext (fun b hb => by rw [rowU, if_neg (fun h => hcond h.1)])
            obtain ⟨WC, hWC⟩ : ∃ x : World, x = w2 := ⟨_, rfl⟩
            have HU : Hid (OwnI WC W1.heap.size (.slice (some ⟨g2, 0, none⟩) N c2) (fmap (rowU f N T k) N)) := by
              rw [Hid, hWC, ← hueq]
              have h := ho2
              unfold OwnI at h ⊢
              rw [fmap_len] at h ⊢
              exact h
            have bC : Below W1.heap.size W1 WC := by rw [hWC]; exact hb2
            have hsC : W1.heap.size ≤ WC.heap.size := bC.size
            by_cases hc1' : k < T
            · have t1 : (k : Int) < (T : Int) := by omega
              have t2 : ¬ (T : Int) < ((N - 1 : Nat) : Int) := fun h => hcond ⟨hc1', by omega⟩
              clear hueq ho2 hcond
              have HNR : Hid (∀ W, Below WC.heap.size WC W → Calls Try.prog 123 #[.slice (some ⟨g2, 0, none⟩) N c2, .int .i64 (T : Int)] W fun e w' => ∃ a' c', e = .returned (.slice a' (N - 1) c') ∧ OwnI w' W.heap.size (.slice a' (N - 1) c') (fmap (shF f N T m) (N - 1)) ∧ Below W.heap.size W w') := fun W h => by
                have h1 := maNarrow_any (some ⟨g2, 0, none⟩) (fmap (rowU f N T k) N) c2 T W1.heap.size W (by rw [fmap_len]; exact HU.out.below h (Nat.le_refl _)) (by have := h.size; omega) (by rw [fmap_len]; exact htl) (by rw [fmap_len]; omega)
                rw [fmap_len, fmap_del htl, HRW.out] at h1
                exact h1
              have hRC := Lib.hid (HRO.out.below bC (Nat.le_refl _))
              have hOC := HO.out.below bC
              have ⟨⟨zOC, cOC⟩, fOC⟩ := hOC
              have HOC := Lib.hid hOC
              have HVC := Lib.hid (HV.out.below bC)
              clear hOC
              subst hWC
              go_wp2_with fail
              go_region_law (first | (have _g := HR2; refine step_push_row (by rfl) _ _ (by rfl) (by rfl) (by rfl) (HR2.out.below ((Below.refl _ _).alloc (Nat.le_refl _) _) (Nat.le_refl _)) (sqM_len _ _ _) (ho3.alloc _) (by simp) (by omega) (by omega) (by simp; omega) (HRO.out.blk.1) (HRO.out.blk.2) ?_; intro g5 c5 w5 ho5 hg5; have hg6 := grown_alloc_set hg5; have hO5 := HO3.out.kept hg6 (ne_own (fun c e => by have := (HR2.out.o.lt c e).1; omega)); have ⟨⟨zO5, cO5⟩, fO5⟩ := hO5) | (go_simp; go_at_call 123; refine (HNR.out _ (Joins.below_draws _ _ _)).mono ?_; rintro e w3 ⟨a3, c3, rfl, ho3', hb3⟩; have ht3 := (Joins.below_draws _ _ _).trans hb3; have hs3 := ht3.size; have ho3 := ho3'.mono (B' := W1.heap.size) (by simp; omega); have HR2 := Lib.hid (hRC.out.below ht3 (Nat.le_refl _)); have HO3 := Lib.hid (HOC.out.below ht3); have ⟨⟨zO3, cO3⟩, fO3⟩ := HO3.out; clear ho3' hb3))
              all_goals
                have hlo := HR2.out.o.lt
                have hV5 := (HVC.out.below ht3).kept hg6 (ne_own (fun c e => by have := (hlo c e).1; omega))
                have b5 : Below w.heap.size w w5 := ((hb.trans (bC.mono hbs)).trans (ht3.mono (Nat.le_trans hbs bC.size))).trans (below_of_grown hg6 (fun c e => by have := (hlo c e).1; omega) (by omega))
                have ho6 := ho5.setBelow (p := ⟨b4, 0, none⟩) (show b4 < b4 + 1 by omega) (.slice (some ⟨g5, 0, none⟩) (m + 1) c5)
                have hO6 := hO5.set (.slice (some ⟨g5, 0, none⟩) (m + 1) c5)
                have hV6 := hV5.other (p := ⟨b4, 0, none⟩) (.slice (some ⟨g5, 0, none⟩) (m + 1) c5) (show w.heap.size + 1 ≠ b4 by omega)
                have b6 := b5.setCell (p := ⟨b4, 0, none⟩) (show w.heap.size ≤ b4 by omega) (.slice (some ⟨g5, 0, none⟩) (m + 1) c5)
                have H6 := Lib.hid (And.intro ho6 (And.intro hO6 (And.intro hV6 b6)))
                clear ho5 hg5 hg6 hlo hO5 hV5 ho6 hO6 hV6 HR2 ho3 HO3
                go_wp2_with fail
                go_roundw
                case rel => exact ⟨k + 1, m + 1, _, _, by omega, by go_num, HMK.out, H6.out.2.1, by rw [HNX.out]; exact H6.out.1, H6.out.2.2.1, H6.out.2.2.2⟩
                case measure => simp [intOf]; omega
            · have t1 : ¬ (k : Int) < (T : Int) := by omega
              clear hueq ho2 hcond
              have HNR : Hid (∀ W, Below WC.heap.size WC W → Calls Try.prog 123 #[.slice (some ⟨g2, 0, none⟩) N c2, .int .i64 (T : Int)] W fun e w' => ∃ a' c', e = .returned (.slice a' (N - 1) c') ∧ OwnI w' W.heap.size (.slice a' (N - 1) c') (fmap (shF f N T m) (N - 1)) ∧ Below W.heap.size W w') := fun W h => by
                have h1 := maNarrow_any (some ⟨g2, 0, none⟩) (fmap (rowU f N T k) N) c2 T W1.heap.size W (by rw [fmap_len]; exact HU.out.below h (Nat.le_refl _)) (by have := h.size; omega) (by rw [fmap_len]; exact htl) (by rw [fmap_len]; omega)
                rw [fmap_len, fmap_del htl, HRW.out] at h1
                exact h1
              have hRC := Lib.hid (HRO.out.below bC (Nat.le_refl _))
              have hOC := HO.out.below bC
              have ⟨⟨zOC, cOC⟩, fOC⟩ := hOC
              have HOC := Lib.hid hOC
              have HVC := Lib.hid (HV.out.below bC)
              clear hOC
              subst hWC
              go_wp2_with fail
              go_region_law (first | (have _g := HR2; refine step_push_row (by rfl) _ _ (by rfl) (by rfl) (by rfl) (HR2.out.below ((Below.refl _ _).alloc (Nat.le_refl _) _) (Nat.le_refl _)) (sqM_len _ _ _) (ho3.alloc _) (by simp) (by omega) (by omega) (by simp; omega) (HRO.out.blk.1) (HRO.out.blk.2) ?_; intro g5 c5 w5 ho5 hg5; have hg6 := grown_alloc_set hg5; have hO5 := HO3.out.kept hg6 (ne_own (fun c e => by have := (HR2.out.o.lt c e).1; omega)); have ⟨⟨zO5, cO5⟩, fO5⟩ := hO5) | (go_simp; go_at_call 123; refine (HNR.out _ (Joins.below_draws _ _ _)).mono ?_; rintro e w3 ⟨a3, c3, rfl, ho3', hb3⟩; have ht3 := (Joins.below_draws _ _ _).trans hb3; have hs3 := ht3.size; have ho3 := ho3'.mono (B' := W1.heap.size) (by simp; omega); have HR2 := Lib.hid (hRC.out.below ht3 (Nat.le_refl _)); have HO3 := Lib.hid (HOC.out.below ht3); have ⟨⟨zO3, cO3⟩, fO3⟩ := HO3.out; clear ho3' hb3))
              all_goals
                have hlo := HR2.out.o.lt
                have hV5 := (HVC.out.below ht3).kept hg6 (ne_own (fun c e => by have := (hlo c e).1; omega))
                have b5 : Below w.heap.size w w5 := ((hb.trans (bC.mono hbs)).trans (ht3.mono (Nat.le_trans hbs bC.size))).trans (below_of_grown hg6 (fun c e => by have := (hlo c e).1; omega) (by omega))
                have ho6 := ho5.setBelow (p := ⟨b4, 0, none⟩) (show b4 < b4 + 1 by omega) (.slice (some ⟨g5, 0, none⟩) (m + 1) c5)
                have hO6 := hO5.set (.slice (some ⟨g5, 0, none⟩) (m + 1) c5)
                have hV6 := hV5.other (p := ⟨b4, 0, none⟩) (.slice (some ⟨g5, 0, none⟩) (m + 1) c5) (show w.heap.size + 1 ≠ b4 by omega)
                have b6 := b5.setCell (p := ⟨b4, 0, none⟩) (show w.heap.size ≤ b4 by omega) (.slice (some ⟨g5, 0, none⟩) (m + 1) c5)
                have H6 := Lib.hid (And.intro ho6 (And.intro hO6 (And.intro hV6 b6)))
                clear ho5 hg5 hg6 hlo hO5 hV5 ho6 hO6 hV6 HR2 ho3 HO3
                go_wp2_with fail
                go_roundw
                case rel => exact ⟨k + 1, m + 1, _, _, by omega, by go_num, HMK.out, H6.out.2.1, by rw [HNX.out]; exact H6.out.1, H6.out.2.2.1, H6.out.2.2.2⟩
                case measure => simp [intOf]; omega
      · obtain rfl : k = N := by omega
        have HM : Hid (m = k - 1) := by rw [Hid]; rw [if_neg (by omega)] at hmk; omega
        have ⟨⟨zO, cO⟩, fO⟩ := hO
        have ⟨⟨zV, cV⟩, fV⟩ := hV
        rw [HM.out] at HRO
        rw [HM.out] at cO
        clear hro hO hV hmk
        go_wp2_with fail
        have hV2 := HV.out.set (.slice av (k - 1) cv)
        have b2 := hb.setCell (p := ⟨w.heap.size + 1, 0, none⟩) (by simp) (.slice av (k - 1) cv)
        refine bodyPost_ret (v := .tuple #[.agg #[.slice av (k - 1) cv], .int .i64 (T : Int)]) (by have ⟨⟨_, q1⟩, _⟩ := hV2; simp [results, Try.results94, go_sem, q1]) rfl ?_
        exact ⟨av, cv, vl, by rw [HSH.out, H2.out, sqM_len], by rw [HSH.out, sqM_len]; exact (HRO.out.setBelow (show w.heap.size + 1 < b4 + 1 by omega) _).mono (by omega), b2⟩
  · rw [if_neg hSS] at HSH
    have hgt : 1 < S := by omega
    clear hSS
    go_wp2_with fail
    refine (HOWN.out _ (HX.out.rd.below b1)).mono ?_
    rintro e w2 ⟨a0, c0, vl, rfl, hro, hb2⟩
    have b2 := b1.trans (hb2.mono b1.size)
    have hV2 := (HV1.out.below hb2).alloc (.cells #[.slice a0 N c0] 39)
    have hB2 := Box1.new w2 (.slice a0 N c0) 39
    have b2' := b2.alloc b2.size (.cells #[.slice a0 N c0] 39)
    have hro2 := (hro.below ((Below.refl _ _).alloc (Nat.le_refl _) (.cells #[.slice a0 N c0] 39)) (Nat.le_refl _)).mono (B' := w.heap.size + 2) (by omega)
    have hblk := hro.blk
    obtain ⟨g4, e4, hg4, hg5, hc4, hf4⟩ := hro2.outer (k := T) (by rw [sqM_len]; exact htl)
    subst e4
    obtain ⟨g6, c6, e6, hg6, hg7, hc6, hf6, hnew⟩ := hro2.num (i := T) (j := N - 1) (by rw [sqM_len]; exact htl) (by rw [sqM_rlen htl]; omega)
    have hne6 : g6 ≠ w2.heap.size := fun h => by
      have := hblk.2 T (by rw [sqM_len]; exact htl) g6 (by rw [e6]; rfl)
      omega
    rw [e6, sqM_rlen htl] at hc4
    rw [sqM_at htl hN1] at hc6
    have hset := hnew (f T (N - 1) - 1)
    rw [setM_sq htl hN1] at hset
    have hset2 : RowsP ((w2.alloc (.cells #[.slice (some ⟨g4, 0, none⟩) N c0] 39)).setCell ⟨g6, N - 1, none⟩ (.int .i64 (f T (N - 1) - 1))) (w.heap.size + 2) (.slice (some ⟨g4, 0, none⟩) N c0) vl (sqM (decF f N T) N N) := hset
    have b4 := b2'.setCell (p := ⟨g6, N - 1, none⟩) (show w.heap.size ≤ g6 by omega) (.int .i64 (f T (N - 1) - 1))
    have hV4 := hV2.other (p := ⟨g6, N - 1, none⟩) (.int .i64 (f T (N - 1) - 1)) (show w.heap.size + 1 ≠ g6 by omega)
    have hB4 : Box1 ((w2.alloc (.cells #[.slice (some ⟨g4, 0, none⟩) N c0] 39)).setCell ⟨g6, N - 1, none⟩ (.int .i64 (f T (N - 1) - 1))) w2.heap.size (.slice (some ⟨g4, 0, none⟩) N c0) := hB2.kept (grown_set _ _ _) (by simp; omega)
    have ⟨z0, z9⟩ := HNB.out
    obtain ⟨Z, hZ⟩ : ∃ Z, Z = f T (N - 1) := ⟨_, rfl⟩
    rw [← hZ] at hc6 hset2 b4 hV4 hB4 z0 z9
    have HS4 := Lib.hid hset2
    have HV4 := Lib.hid hV4
    have ⟨⟨zV4, cV4⟩, fV4⟩ := hV4
    have ⟨zB2, cB2⟩ := hB2
    have ⟨zB4, cB4⟩ := hB4
    clear hro hro2 hnew hset hset2 hV2 hV4 hb2 e6 hZ hblk hB2 hB4 cA1
    go_wp2_with fail
    have hV6 := HV4.out.set (.slice (some ⟨g4, 0, none⟩) N c0)
    have b6 := b4.setCell (p := ⟨w.heap.size + 1, 0, none⟩) (by simp) (.slice (some ⟨g4, 0, none⟩) N c0)
    refine bodyPost_ret (v := .tuple #[.agg #[.slice (some ⟨g4, 0, none⟩) N c0], .int .i64 (T : Int)]) (by have ⟨⟨_, q1⟩, _⟩ := hV6; simp [results, Try.results94, go_sem, q1]) rfl ?_
    exact ⟨some ⟨g4, 0, none⟩, c0, vl, by rw [HSH.out, H2.out, sqM_len], by rw [HSH.out, sqM_len]; exact (HS4.out.setBelow (show w.heap.size + 1 < w.heap.size + 2 by omega) _).mono (by omega), b6⟩

theorem wpList_append_rd {w : World} {ops : Array Oper} {rest : List Oper} {o : Oper} {a : Act} {Q : Exit → Act → World → Prop} (hgd : o.guard = none) (s x : Operand)
    (ho : o.op = .call { callee := .builtin .append, args := #[s, x], argTypes := #[22, 22] })
    (base : Nat) (v : Value) (zs : List Int) (hs : a.eval s = v) (hown : OwnI w base v zs) (ad : Option Addr) (xs : List Int) (cap : Nat) (hx : a.eval x = .slice ad xs.length cap) (hr : Rd w ad xs)
    (hsm : zs.length + xs.length ≤ 1000) (hbase : base ≤ w.heap.size)
    (h : ∀ v' w', OwnI w' base v' (zs ++ xs) → w.grownBy w' v.ownBlock → wpList Try.prog ops Q rest (a.put o.dst v') w') : wpList Try.prog ops Q (o :: rest) a w := by
  obtain ⟨i0, hi, hz0, hz1, hz2⟩ := info_parts infoInt
  cases ad with
  | none =>
    have h0 : xs = [] := by
      rcases xs with _ | ⟨y, t⟩
      · rfl
      · obtain ⟨b, off, e, _⟩ := hr.cell 0 (by simp)
        cases e
    subst h0
    exact wpList_append_none hgd s x 22 ho base 3 i0 1 Try.underlying22 hi v zs.length cap (zs.map (Value.int .i64)) hs hown hx (h v w (by rw [List.append_nil]; exact hown) (World.grownBy.refl _ _))
  | some ad =>
    refine wpList_append_own _ hgd s x 22 ho base 3 i0 (.int .i64 0) 1 8 Try.underlying22 hi hz0 hz1 hz2 rfl (by decide) v zs.length (zs.map (Value.int .i64)) hs hown ad xs.length cap (xs.map (Value.int .i64)) hx (by simp) (rd_news hr) (ints_one xs) (by unfold maxLen; omega) (by omega) hbase ?_
    intro v' w' h1 h2 _
    refine h v' w' ?_ h2
    unfold OwnI
    rw [List.length_append, List.map_append]
    exact h1

theorem belowSet_any (n : Int) (a : Option Addr) (xs : List Int) (cap : Nat) (i : Int) (w : World) (hx : Rd w a xs) (hr : RelP n xs) (hi : 0 ≤ i) :
    Calls Try.prog 114 #[.agg #[.int .i64 n, .slice a xs.length cap], .int .i64 i] w fun e w' => e = .returned (.int .i64 (belowTo xs i xs.length)) ∧ Below w.heap.size w w' := by
  have hx1 := hx.alloc (.cells #[.int .i64 n, .slice a xs.length cap] 28)
  have hn : xs.length ≤ 10 := by have := hr.len; have := hr.n1; omega
  go_enter Try.func114, Try.ntmps114
  go_wp2_with fail
  go_loop [5, 11] (fun s i' => ∃ k : Nat, k ≤ xs.length ∧ i' = .int .i64 k ∧ s = .int .i64 (belowTo xs i k)) (fun _ i => xs.length - (intOf i).toNat)
  case atStart => exact ⟨0, Nat.zero_le _, rfl, rfl⟩
  case round =>
    obtain ⟨k, hk, rfl, rfl⟩ := hrel
    by_cases hlt : k < xs.length
    · obtain ⟨b, off, rfl, hbl, hc⟩ := hx1.cell k hlt
      obtain ⟨b', off', e', hbl', hc'⟩ := hx.cell k hlt
      simp only [Option.some.injEq, Addr.mk.injEq, and_true] at e'
      obtain ⟨rfl, rfl⟩ := e'
      have hpk := hr.pos k hlt
      have hsk : nth xs k ≤ 9223372036854775807 := by have := hr.small k hlt; omega
      have hbs := belowTo_small xs i (k := k) (by omega)
      have hor := Lib.hid (or_bit (b := belowTo xs i k) (k := k) (by omega) (by omega))
      clear hbs
      cases hin : hasB (nth xs k) i
      · go_wp2_with (go_at_call 83; refine (hasElement_any _ _ _ hpk hsk hi).mono ?_; rintro e w' ⟨rfl, rfl⟩)
        go_round
        case rel => exact ⟨k + 1, by omega, by go_num, by simp [belowTo, hin]⟩
        case measure => simp [intOf]; omega
      · go_wp2_with (go_at_call 83; refine (hasElement_any _ _ _ hpk hsk hi).mono ?_; rintro e w' ⟨rfl, rfl⟩)
        go_round
        case rel => exact ⟨k + 1, by omega, by go_num, val_int (by rw [hor.out]; simp [belowTo, hin])⟩
        case measure => simp [intOf]; omega
    · obtain rfl : k = xs.length := by omega
      go_wp2_with fail
      go_ret
      exact ⟨rfl, (by repeat (first | exact Below.refl _ _ | assumption | refine Below.alloc ?_ (by first | exact Nat.le_refl _ | (simp only [World.size_alloc, World.size_setCell, World.size_drew]; omega) | omega) _ | refine Below.setCell ?_ (by first | exact Nat.le_refl _ | (simp only [World.size_alloc, World.size_setCell, World.size_drew]; omega) | omega) _ | refine Below.drew ?_))⟩

set_option maxRecDepth 100000 in
set_option maxHeartbeats 2000000 in
theorem maAscent_any (a : Option Addr) (xss : List (List Int)) (cap : Nat) (w : World) (hx : RdC w a xss) (hm : mxB xss = true) :
    Calls Try.prog 62 #[.agg #[.slice a xss.length cap]] w fun e w' => ∃ a0 c0, e = .returned (.slice a0 (asL xss).length c0) ∧ OwnI w' w.heap.size (.slice a0 (asL xss).length c0) (asL xss) ∧ Below w.heap.size w w' := by
  have hN : asN xss ≤ 12 := by have := of_mx hm; rw [asN]; omega
  have hV := Var1.new w (.slice a xss.length cap) 39
  have hb0 : Below w.heap.size w (w.alloc (.cells #[.slice a xss.length cap] 39)) := (by repeat (first | exact Below.refl _ _ | assumption | refine Below.alloc ?_ (by first | exact Nat.le_refl _ | (simp only [World.size_alloc, World.size_setCell, World.size_drew]; omega) | omega) _ | refine Below.setCell ?_ (by first | exact Nat.le_refl _ | (simp only [World.size_alloc, World.size_setCell, World.size_drew]; omega) | omega) _ | refine Below.drew ?_))
  have ⟨⟨zV, cV⟩, fV⟩ := hV
  go_enter Try.func62, Try.ntmps62
  go_wp2_with fail
  go_loopw [3] (fun s wr => ∃ (cur : List (List Int)) (ac : Option Addr) (cc : Nat) (v : Value) (lst : List Int), s = v ∧ mxB cur = true ∧ asF (asN cur) cur ++ lst = asL xss ∧ OwnI wr (w.heap.size + 1) v lst ∧ Var1 wr w.heap.size (.slice ac cur.length cc) ∧ RdC wr ac cur ∧ Below w.heap.size w wr) (fun s _ => 13 - slL s)
  case atStart => exact ⟨xss, a, cap, _, [], rfl, hm, by rw [List.append_nil]; rfl, OwnI.nil _ _, hV, hx.below hb0, hb0⟩
  case round =>
    clear hV hb0 zV cV fV hx
    obtain ⟨cur, ac, cc, v, lst, rfl, hmc, heq, hown, hV, hr, hb⟩ := hrel
    obtain ⟨av, cv, rfl⟩ := hown.form
    have ⟨⟨zV, cV⟩, fV⟩ := hV
    by_cases hlt : 0 < cur.length
    · have HT := Lib.hid (topB_of hmc hlt)
      have HR := Lib.hid hr
      have HO := Lib.hid hown
      have HV := Lib.hid hV
      have HE := Lib.hid heq
      have HM := Lib.hid hmc
      clear hmc hr hown heq hV
      go_wp2_with fail
      refine (maShrink_any _ _ _ _ HR.out HT.out).mono ?_
      rintro e w2 ⟨a0, c0, vl, rfl, hP, hb2⟩
      have hV2 := HV.out.below hb2
      have ⟨⟨zV2, cV2⟩, fV2⟩ := hV2
      have HP := Lib.hid hP
      clear hP
      have hO1 := OwnI.new (w2.alloc (.cells #[.slice a0 (shL cur).length c0] 39)) [topV cur] (by simp)
      rw [World.size_alloc] at hO1
      have HO1 : Hid (OwnI ((w2.alloc (.cells #[.slice a0 (shL cur).length c0] 39)).alloc (.cells #[.int .i64 (topV cur)] 3)) (w2.heap.size + 1) (.slice (some ⟨w2.heap.size + 1, 0, none⟩) 1 1) [topV cur]) := hO1
      have hbw : Below w2.heap.size w2 ((w2.alloc (.cells #[.slice a0 (shL cur).length c0] 39)).alloc (.cells #[.int .i64 (topV cur)] 3)) := ((Below.refl _ _).alloc (Nat.le_refl _) _).alloc (by simp) _
      have HRD := Lib.hid (((HO.out.rd).below hb2).below hbw)
      have HBW := Lib.hid hbw
      have hlen : lst.length + 1 ≤ 12 := by
        have h1 := congrArg List.length HE.out
        rw [List.length_append, asF_len, asL, asF_len] at h1
        have h2 := asN_step HT.out
        omega
      clear hO1 hbw
      go_wp2_with (at_builtin; refine wpList_append_rd rfl _ _ rfl (w2.heap.size + 1) (.slice (some ⟨w2.heap.size + 1, 0, none⟩) 1 1) [topV cur] rfl HO1.out av lst cv rfl HRD.out (by simp; omega) (by simp) ?_; intro v4 w4 ho4 hg4; have bw4 := HBW.out.trans (below_of_grown (B := w2.heap.size) hg4 (fun c e => by simp [Value.ownBlock] at e; omega) (by simp; omega)); have hV4 := hV2.below bw4; have ⟨⟨zV4, cV4⟩, fV4⟩ := hV4; have hX4 := ((Var1.new w2 (.slice a0 (shL cur).length c0) 39).alloc (.cells #[.int .i64 (topV cur)] 3)).kept hg4 (by simp [Value.ownBlock]); have ⟨⟨zX4, cX4⟩, fX4⟩ := hX4)
      obtain ⟨a4, c4, rfl⟩ := ho4.form
      have HP4 := (HP.out.below bw4 (Nat.le_refl _)).setBelow (p := ⟨w.heap.size, 0, none⟩) zV (.slice a0 (shL cur).length c0)
      have HO4 := (ho4.mono (B' := w.heap.size + 1) (by omega)).setBelow (p := ⟨w.heap.size, 0, none⟩) (by simp) (.slice a0 (shL cur).length c0)
      have HV4 := hV4.set (.slice a0 (shL cur).length c0)
      have HB4 := ((hb.trans (hb2.mono hb.size)).trans (bw4.mono (by omega))).setCell (p := ⟨w.heap.size, 0, none⟩) (by simp) (.slice a0 (shL cur).length c0)
      go_roundw
      case rel => exact ⟨shL cur, a0, c0, _, topV cur :: lst, rfl, (sh_mx HT.out).1, by rw [← asF_step HT.out]; exact HE.out, HO4, HV4, HP4.rdC, HB4⟩
      case measure => simp [slL]; omega
    · have h0 : cur.length = 0 := by omega
      have h00 : cur = [] := List.eq_nil_of_length_eq_zero h0
      have hL : asL xss = lst := by
        rw [← heq, h00]; rfl
      have HL := Lib.hid hL
      rw [HL.out]
      clear heq hr hmc
      go_wp2_with fail
      go_ret
      exact ⟨av, cv, by rw [HL.out]; rfl, by rw [HL.out]; exact hown.mono (Nat.le_succ _), hb⟩

theorem sAscOrd_any (n : Int) (a : Option Addr) (xs : List Int) (cap : Nat) (w : World) (hn : -9223372036854775808 ≤ n ∧ n ≤ 9223372036854775807) (hx : Rd w a xs) :
    Calls Try.prog 29 #[.agg #[.int .i64 n, .slice a xs.length cap]] w (GotI w (aooL n xs) (isIv n xs)) := by
  have hlen := hx.len
  obtain ⟨W0, hW0⟩ : ∃ x : World, x = w.alloc (.cells #[.int .i64 n, .slice a xs.length cap] 28) := ⟨_, rfl⟩
  have bw0 : Below w.heap.size w W0 := by rw [hW0]; exact (Below.refl _ _).alloc (Nat.le_refl _) _
  have B0 : Box2 W0 w.heap.size (.int .i64 n) (.slice a xs.length cap) := by rw [hW0]; exact Box2.new w _ _ _
  have hx0 := hx.below bw0
  obtain ⟨g0, hg0⟩ : ∃ g, g = w.heap.size := ⟨_, rfl⟩
  cases hm : isIv n xs
  · have HL : Hid (aooL n xs = []) := by simp [Hid, aooL, hm]
    have HB := Lib.hid hm
    clear hm hx
    go_enter Try.func29, Try.ntmps29
    go_wp2_with fail
    rw [← hW0]
    rw [← hg0] at B0 ⊢
    have ⟨zB0, cB0, dB0⟩ := B0
    clear hg0 hW0
    go_wp2_with fail
    refine (ivGoodOrder_any _ _ _ _ _ hx0).mono ?_
    rintro e w1 ⟨rfl, hb⟩
    rw [HB.out]
    clear cB0 dB0
    go_wp2_with fail
    refine bodyPost_ret (v := .tuple #[.slice none 0 0, .bool false]) (by simp [results, Try.results29, go_sem]) rfl ?_
    exact gotI_no HL.out rfl (bw0.trans (hb.mono bw0.size))
  · have HG := Lib.hid (mo_good hm)
    have HMO : Hid (moL n xs = sqM (cntE xs xs.length) (sets xs).length (sets xs).length) := by rw [Hid, moL, if_pos hm]
    have HL : Hid (aooL n xs = asL (moL n xs)) := by rw [Hid, aooL, if_pos hm, amL, if_pos HG.out]
    have HSL : Hid ((moL n xs).length = (sets xs).length) := by rw [Hid, HMO.out, sqM_len]
    have HC := Lib.hid (fun W (h : Rd W a xs) => maOfOrd_any n a xs cap W h hm)
    rw [← HMO.out] at HC
    have HA : Hid (∀ (W : World) (a0 : Option Addr) (c0 : Nat), RdC W a0 (moL n xs) → Calls Try.prog 62 #[.agg #[.slice a0 (sets xs).length c0]] W fun e w' => ∃ a1 c1, e = .returned (.slice a1 (asL (moL n xs)).length c1) ∧ OwnI w' W.heap.size (.slice a1 (asL (moL n xs)).length c1) (asL (moL n xs)) ∧ Below W.heap.size W w') := fun W a0 c0 h => by
      have := maAscent_any a0 (moL n xs) c0 W h HG.out
      rw [HSL.out] at this
      exact this
    have HB := Lib.hid hm
    obtain ⟨D, hD⟩ : ∃ D, D = (sets xs).length := ⟨_, rfl⟩
    obtain ⟨L, hL⟩ : ∃ L, L = moL n xs := ⟨_, rfl⟩
    rw [← hD] at HC HA HSL
    rw [← hL] at HC HA HL HSL
    clear hm hx hD hL HMO HG
    go_enter Try.func29, Try.ntmps29
    go_wp2_with fail
    rw [← hW0]
    rw [← hg0] at B0 ⊢
    have ⟨zB0, cB0, dB0⟩ := B0
    clear hg0 hW0
    go_wp2_with fail
    refine (ivGoodOrder_any _ _ _ _ _ hx0).mono ?_
    rintro e w1 ⟨rfl, hb⟩
    rw [HB.out]
    have hx1 := hx0.below hb
    have ⟨zB1, cB1, dB1⟩ := B0.below hb
    have b1 := bw0.trans (hb.mono bw0.size)
    clear cB0 dB0
    go_wp2_with fail
    refine (HC.out _ hx1).mono ?_
    rintro e w2 ⟨a2, c2, vl, rfl, hro, hb2⟩
    have b2 := b1.trans (hb2.mono b1.size)
    have hrc := hro.rdC
    clear hro cB1 dB1
    go_wp2_with fail
    refine (HA.out _ a2 c2 hrc).mono ?_
    rintro e w3 ⟨a3, c3, rfl, ho3, hb3⟩
    go_wp2_with fail
    refine bodyPost_ret (v := .tuple #[.slice a3 (asL L).length c3, .bool true]) (by simp [results, Try.results29, go_sem]) rfl ?_
    exact ⟨a3, c3, by rw [HL.out], by rw [HL.out]; exact ho3.mono b2.size, b2.trans (hb3.mono b2.size)⟩

def Sh_lays189_ren : Go.Shelf.Ren := ⟨fun | 189 => 117 | 125 => 138 | 257 => 137 | 128 => 160 | 129 => 161 | 294 => 151 | 295 => 152 | 296 => 153 | 297 => 154 | 298 => 155 | 299 => 156 | 216 => 157 | 300 => 158 | 301 => 159 | 328 => 169 | 329 => 170 | 330 => 171 | 331 => 172 | 332 => 173 | 215 => 174 | 343 => 177 | n => n, fun | 28 => 22 | 3 => 3 | 46 => 126 | 0 => 0 | 51 => 143 | 53 => 145 | 4 => 4 | 183 => 138 | 182 => 137 | 131 => 35 | 5 => 5 | 9 => 9 | 218 => 148 | 222 => 152 | 228 => 156 | 229 => 157 | n => n, fun | n => n⟩
theorem Sh_lays189 : Go.Proofs.Lays.n189 Try.prog Sh_lays189_ren := {
  mixed := by kernel_rfl
  f125 := Try.func138.trans (congrArg some (by kernel_rfl))
  f128 := Try.func160.trans (congrArg some (by kernel_rfl))
  f129 := Try.func161.trans (congrArg some (by kernel_rfl))
  f189 := Try.func117.trans (congrArg some (by kernel_rfl))
  f215 := Try.func174.trans (congrArg some (by kernel_rfl))
  f216 := Try.func157.trans (congrArg some (by kernel_rfl))
  f257 := Try.func137.trans (congrArg some (by kernel_rfl))
  f294 := Try.func151.trans (congrArg some (by kernel_rfl))
  f295 := Try.func152.trans (congrArg some (by kernel_rfl))
  f296 := Try.func153.trans (congrArg some (by kernel_rfl))
  f297 := Try.func154.trans (congrArg some (by kernel_rfl))
  f298 := Try.func155.trans (congrArg some (by kernel_rfl))
  f299 := Try.func156.trans (congrArg some (by kernel_rfl))
  f300 := Try.func158.trans (congrArg some (by kernel_rfl))
  f301 := Try.func159.trans (congrArg some (by kernel_rfl))
  f328 := Try.func169.trans (congrArg some (by kernel_rfl))
  f329 := Try.func170.trans (congrArg some (by kernel_rfl))
  f330 := Try.func171.trans (congrArg some (by kernel_rfl))
  f331 := Try.func172.trans (congrArg some (by kernel_rfl))
  f332 := Try.func173.trans (congrArg some (by kernel_rfl))
  f343 := Try.func177.trans (congrArg some (by kernel_rfl))
  t0 := Try.underlying0
  a0 := Try.isAgg0
  z0 := Try.sizeOf0
  v0 := Try.zeroValue0
  t3 := Try.underlying3
  a3 := Try.isAgg3
  z3 := Try.sizeOf3
  v3 := Try.zeroValue3
  t4 := Try.underlying4
  a4 := Try.isAgg4
  z4 := Try.sizeOf4
  v4 := Try.zeroValue4
  t5 := Try.underlying5
  a5 := Try.isAgg5
  z5 := Try.sizeOf5
  v5 := Try.zeroValue5
  t9 := Try.underlying9
  a9 := Try.isAgg9
  z9 := Try.sizeOf9
  v9 := Try.zeroValue9
  t28 := Try.underlying22
  a28 := Try.isAgg22
  z28 := Try.sizeOf22
  v28 := Try.zeroValue22
  t46 := Try.underlying126
  a46 := Try.isAgg126
  z46 := Try.sizeOf126
  v46 := Try.zeroValue126
  t51 := Try.underlying143
  a51 := Try.isAgg143
  z51 := Try.sizeOf143
  v51 := Try.zeroValue143
  t53 := Try.underlying145
  a53 := Try.isAgg145
  z53 := Try.sizeOf145
  v53 := Try.zeroValue145
  t131 := Try.underlying35
  a131 := Try.isAgg35
  z131 := Try.sizeOf35
  v131 := Try.zeroValue35
  t182 := Try.underlying137
  a182 := Try.isAgg137
  z182 := Try.sizeOf137
  v182 := Try.zeroValue137
  t183 := Try.underlying138
  a183 := Try.isAgg138
  z183 := Try.sizeOf138
  v183 := Try.zeroValue138
  t218 := Try.underlying148
  a218 := Try.isAgg148
  z218 := Try.sizeOf148
  v218 := Try.zeroValue148
  t222 := Try.underlying152
  a222 := Try.isAgg152
  z222 := Try.sizeOf152
  v222 := Try.zeroValue152
  t228 := Try.underlying156
  a228 := Try.isAgg156
  z228 := Try.sizeOf156
  v228 := Try.zeroValue156
  t229 := Try.underlying157
  a229 := Try.isAgg157
  z229 := Try.sizeOf157
  v229 := Try.zeroValue157 }

open Go.Sort Go.RowKit in
theorem Sh_slices_Sort_int (blk off cap : Nat) (zs : List Int) (w : World) (hH : Holds (Value.int .i64) w blk off zs.toArray) (hblk : blk < w.heap.size) (hsz : zs.length < 4611686018427387904) :
    Calls Try.prog 117 #[.slice (some ⟨blk, off, none⟩) zs.length cap] w fun e w' =>
      e = .returned (.tuple #[]) ∧ ∃ n os, w' = grow (putRow (Value.int .i64) (Sort.ahead w n) blk off (zs.mergeSort fun x y => decide (x ≤ y)).toArray) os := Any.slices_Sort_int Sh_lays189 blk off cap zs w hH hblk hsz

open Go.RowKit Go.Sort in
theorem Sh_slices_Sort_int_none (p : Option Addr) (cap : Nat) (w : World) :
    Calls Try.prog 117 #[.slice p 0 cap] w fun e w' => e = .returned (.tuple #[]) ∧ w' = w := Any.slices_Sort_int_none Sh_lays189 p cap w

theorem sortOwn (a : Option Addr) (cap : Nat) (xs : List Int) (B : Nat) (w : World) (hl : xs.length ≤ 1048576) (ho : OwnI w B (.slice a xs.length cap) xs) :
    Calls Try.prog 117 #[.slice a xs.length cap] w fun e w' => e = .returned (.tuple #[]) ∧ OwnI w' B (.slice a (srt xs).length cap) (srt xs) ∧ w.grownBy w' (Value.slice a xs.length cap).ownBlock := by
  rcases ho.2 with ⟨e0, h0⟩ | ⟨g, cap', cur, e0, hbase, hb, h1, h2, h3, h4⟩
  · have hx : xs = [] := List.length_eq_zero_iff.1 h0
    subst hx
    refine (Sh_slices_Sort_int_none a cap w).mono ?_
    rintro e w' ⟨rfl, rfl⟩
    exact ⟨rfl, by rw [show srt [] = [] from by simp [srt]]; exact ho, World.grownBy.refl _ _⟩
  · simp only [Value.slice.injEq] at e0
    obtain ⟨rfl, -, rfl⟩ := e0
    have hh := Go.holds_of_blockI (ss := xs) hb (by simpa using h4)
    refine (Sh_slices_Sort_int g 0 cap xs w hh ((Array.getElem?_eq_some_iff.1 hb).1) (by omega)).mono ?_
    rintro e w' ⟨rfl, nn, os, rfl⟩
    refine ⟨rfl, ?_, Go.grownBy_sortedI _⟩
    have := Go.ownsRow_sortedI (n := nn) (os := os) (ss := xs) (ts := srt xs) (srt_len xs) hbase hb h1 h2 h3
    unfold OwnI
    rw [srt_len]
    exact this

def Sh_laysNm220_ren : Go.Shelf.Ren := ⟨fun | 20 => 118 | n => n, fun | 22 => 22 | 3 => 3 | 4 => 4 | 0 => 0 | n => n, fun | n => n⟩
theorem Sh_laysNm220 : Go.Proofs.Lays2.n20 Try.prog Sh_laysNm220_ren := {
  mixed := by kernel_rfl
  f20 := Try.func118.trans (congrArg some (by kernel_rfl))
  t0 := Try.underlying0
  a0 := Try.isAgg0
  z0 := Try.sizeOf0
  v0 := Try.zeroValue0
  t3 := Try.underlying3
  a3 := Try.isAgg3
  z3 := Try.sizeOf3
  v3 := Try.zeroValue3
  t4 := Try.underlying4
  a4 := Try.isAgg4
  z4 := Try.sizeOf4
  v4 := Try.zeroValue4
  t22 := Try.underlying22
  a22 := Try.isAgg22
  z22 := Try.sizeOf22
  v22 := Try.zeroValue22
  i3 := by kernel_rfl }

open Go.RowKit Go.Lib Go.Sort in
theorem Sh_slices_Compact_int (blk off cap : Nat) (zs : List Int) (w : World) (hH : Holds (Value.int .i64) w blk off zs.toArray) (hsz : zs.length ≤ 9223372036854775807) (hcap : zs.length ≤ cap) :
    Calls Try.prog 118 #[.slice (some ⟨blk, off, none⟩) zs.length cap] w fun e w' => e = .returned (.slice (some ⟨blk, off, none⟩) (Lib.compact zs).length cap) ∧ ∃ q, w' = putRow (Value.int .i64) (Sort.ahead w q) blk off (Lib.compact zs ++ List.replicate (zs.length - (Lib.compact zs).length) 0).toArray := Any.slices_Compact_int Sh_laysNm220 blk off cap zs w hH hsz hcap

open Go.RowKit Go.Lib Go.Sort in
theorem Sh_slices_Compact_int_empty (a : Option Addr) (cap : Nat) (w : World) :
    Calls Try.prog 118 #[.slice a 0 cap] w fun e w' => e = .returned (.slice a 0 cap) ∧ w' = w := Any.slices_Compact_int_empty Sh_laysNm220 a cap w

theorem compactOwn (a : Option Addr) (cap : Nat) (xs : List Int) (B : Nat) (w : World) (ho : OwnI w B (.slice a xs.length cap) xs) :
    Calls Try.prog 118 #[.slice a xs.length cap] w fun e w' => e = .returned (.slice a (Go.Lib.compact xs).length cap) ∧ OwnI w' B (.slice a (Go.Lib.compact xs).length cap) (Go.Lib.compact xs) ∧ w.grownBy w' (Value.slice a xs.length cap).ownBlock := by
  rcases ho.2 with ⟨e0, h0⟩ | ⟨g, cap', cur, e0, hbase, hb, h1, h2, h3, h4⟩
  · have hx : xs = [] := List.length_eq_zero_iff.1 h0
    subst hx
    refine (Sh_slices_Compact_int_empty a cap w).mono ?_
    rintro e w' ⟨rfl, rfl⟩
    exact ⟨rfl, ho, World.grownBy.refl _ _⟩
  · simp only [Value.slice.injEq] at e0
    obtain ⟨rfl, -, rfl⟩ := e0
    have hh := Go.holds_of_blockI (ss := xs) hb (by simpa using h4)
    have hcl := Go.Lib.compact_length_le xs
    refine (Sh_slices_Compact_int g 0 cap xs w hh (by unfold maxLen at h2; omega) h1).mono ?_
    rintro e w' ⟨rfl, nn, rfl⟩
    have hg := Go.grownBy_sortedI (w := w) (g := g) (n := nn) (os := #[]) (Go.Lib.compact xs ++ List.replicate (xs.length - (Go.Lib.compact xs).length) 0).toArray
    have ho := Go.ownsRow_sortedI (n := nn) (os := #[]) (ss := xs) (ts := Go.Lib.compact xs ++ List.replicate (xs.length - (Go.Lib.compact xs).length) 0) (by rw [List.length_append, List.length_replicate]; omega) hbase hb h1 h2 h3
    rw [Go.Sort.grow_empty] at hg ho
    refine ⟨rfl, ?_, hg⟩
    have hc := ownsRow_cut ho hcl
    have e1 : (List.map (Value.int .i64) (Go.Lib.compact xs ++ List.replicate (xs.length - (Go.Lib.compact xs).length) 0)).take (Go.Lib.compact xs).length = (Go.Lib.compact xs).map (Value.int .i64) := by
      rw [← List.map_take, List.take_left']
      rfl
    rw [e1] at hc
    exact hc

theorem bang (l : List Int) {j : Nat} (h : j < l.length) : l.toArray[j]! = nth l j := by
  rw [getElem!_pos l.toArray j (by simpa using h), nth_get l j h]; simp
theorem cu_inc {l : List Int} (h : l.Pairwise (· ≤ ·)) : ∀ m, m ≤ l.length → Inc (Go.Lib.compactUpTo l.toArray m) ∧ (∀ x, x ∈ Go.Lib.compactUpTo l.toArray m ↔ ∃ j, j < m ∧ nth l j = x)
  | 0, _ => ⟨List.Pairwise.nil, fun x => by simp [Go.Lib.compactUpTo]⟩
  | m+1, hm => by
    obtain ⟨h1, h2⟩ := cu_inc h m (by omega)
    have hle : ∀ i j, i ≤ j → j < l.length → nth l i ≤ nth l j := fun i j hij hj => by
      rw [nth_get _ _ (by omega), nth_get _ _ hj]
      rcases Nat.lt_or_eq_of_le hij with h3 | rfl
      · exact (List.pairwise_iff_getElem.1 h) i j (by omega) hj h3
      · exact Int.le_refl _
    rw [Go.Lib.compactUpTo_succ, bang l (by omega)]
    cases hk : Go.Lib.keeps l.toArray m
    · rw [if_neg (by simp), List.append_nil]
      refine ⟨h1, fun x => ?_⟩
      rw [h2]
      constructor
      · rintro ⟨j, hj, e⟩
        exact ⟨j, by omega, e⟩
      · rintro ⟨j, hj, e⟩
        by_cases e2 : j = m
        · subst e2
          simp only [Go.Lib.keeps, decide_eq_false_iff_not, not_or, ne_eq, Classical.not_not] at hk
          rw [bang l (by omega), bang l (by omega)] at hk
          exact ⟨j - 1, by omega, by rw [← hk.2]; exact e⟩
        · exact ⟨j, by omega, e⟩
    · rw [if_pos rfl]
      constructor
      · unfold Inc
        rw [List.pairwise_append]
        refine ⟨h1, List.pairwise_singleton _ _, fun a ha b hb => ?_⟩
        rw [List.mem_singleton] at hb
        subst hb
        obtain ⟨j, hj, rfl⟩ := (h2 a).1 ha
        simp only [Go.Lib.keeps, decide_eq_true_eq] at hk
        rw [bang l (by omega), bang l (by omega)] at hk
        have hne : nth l m ≠ nth l (m - 1) := hk.resolve_left (by omega)
        have := hle j (m - 1) (by omega) (by omega)
        have := hle (m - 1) m (by omega) (by omega)
        omega
      · intro x
        rw [List.mem_append, h2, List.mem_singleton]
        constructor
        · rintro (⟨j, hj, e⟩ | e)
          · exact ⟨j, by omega, e⟩
          · exact ⟨m, by omega, e.symm⟩
        · rintro ⟨j, hj, e⟩
          by_cases e2 : j = m
          · subst e2; exact .inr e.symm
          · exact .inl ⟨j, by omega, e⟩
theorem compact_inc {l : List Int} (h : l.Pairwise (· ≤ ·)) : Inc (Go.Lib.compact l) := (cu_inc h l.length (Nat.le_refl _)).1
theorem compact_mem {l : List Int} (h : l.Pairwise (· ≤ ·)) (x : Int) : x ∈ Go.Lib.compact l ↔ x ∈ l := by
  have := (cu_inc h l.length (Nat.le_refl _)).2 x
  rw [Go.Lib.compact, this]
  constructor
  · rintro ⟨j, hj, rfl⟩
    rw [nth_get _ _ hj]; exact List.getElem_mem _
  · intro hx
    obtain ⟨j, hj, rfl⟩ := List.getElem_of_mem hx
    exact ⟨j, hj, nth_get _ _ hj⟩

def belows (xs : List Int) (k : Nat) : List Int := fmap (fun i => ((belowTo xs i xs.length : Nat) : Int)) k
theorem belows_len (xs : List Int) (k : Nat) : (belows xs k).length = k := fmap_len _ _

theorem belowSets_any (n : Int) (a : Option Addr) (xs : List Int) (cap : Nat) (w : World) (hx : Rd w a xs) (hr : RelP n xs) :
    Calls Try.prog 116 #[.agg #[.int .i64 n, .slice a xs.length cap]] w fun e w' => ∃ a' cap', e = .returned (.slice a' xs.length cap') ∧ OwnI w' w.heap.size (.slice a' xs.length cap') (belows xs xs.length) ∧ Below w.heap.size w w' := by
  obtain ⟨i0, hi, hz0, hz1, hz2⟩ := info_parts infoInt
  have hn0 := hr.n0
  have hn1 := hr.n1
  obtain rfl : n = (xs.length : Int) := hr.len.symm
  have hn : xs.length ≤ 10 := by omega
  go_enter Try.func116, Try.ntmps116
  go_wp2_with (at_make; refine wpList_make_full _ rfl (.tmp 6) (.tmp 6) 22 rfl (w.heap.size + 1) 3 i0 (.int .i64 0) 1 Try.underlying22 hi hz0 hz1 .i64 .i64 _ _ xs.length rfl rfl rfl rfl (by rw [hz2]; omega) (by unfold maxLen; omega) (by simp) ?_; intro w1 hown hgrow)
  have hb0 : Below w.heap.size w w1 := ((Below.refl _ _).alloc (Nat.le_refl _) _).grown hgrow (by simp) (fun k h => by cases h)
  have hown0 := made_ints (fun i => ((belowTo xs i xs.length : Nat) : Int)) hown
  have B1 : Box2 w1 w.heap.size (.int .i64 (xs.length : Int)) (.slice a xs.length cap) := (Box2.new w _ _ _).kept hgrow (by simp)
  have hx1 : Rd w1 a xs := hx.below hb0
  clear hown hgrow
  simp only [World.size_alloc] at *
  have hz : w.heap.size + 1 < w1.heap.size := by
    have := (World.ownsRow.lt hown0 (w.heap.size + 1) rfl).2
    omega
  go_wp2_with fail
  go_loopw [10] (fun i wr => ∃ k : Nat, k ≤ xs.length ∧ i = .int .i64 k ∧ wr.ownsRow (w.heap.size + 1) 3 1 (.slice (some ⟨w.heap.size + 1, 0, none⟩) xs.length xs.length) xs.length ((fmap (fun i => ((belowTo xs i xs.length : Nat) : Int)) k ++ List.replicate (xs.length - k) (0:Int)).map (Value.int .i64)) ∧ Below w.heap.size w wr ∧ Box2 wr w.heap.size (.int .i64 (xs.length : Int)) (.slice a xs.length cap)) (fun i _ => xs.length - (intOf i).toNat)
  case atStart => exact ⟨0, Nat.zero_le _, rfl, hown0, hb0, B1⟩
  case round =>
    obtain ⟨k, hk, rfl, hown, hb, hB⟩ := hrel
    have ⟨zr, cr, dr⟩ := hB
    by_cases hlt : k < xs.length
    · go_wp2_with fail
      refine (belowSet_any _ _ _ _ _ _ (hx.below hb) hr (by omega)).mono ?_
      rintro e w2 ⟨rfl, hb2⟩
      have hown2 : w2.ownsRow (w.heap.size + 1) 3 1 (.slice (some ⟨w.heap.size + 1, 0, none⟩) xs.length xs.length) xs.length _ := World.ownsRow.kept hown (below_grown hb2 (Nat.le_refl _) none) (.inr (by simp [Value.ownBlock]))
      have hst := World.ownsRow.stored hown2 k (.int .i64 ((belowTo xs k xs.length : Nat) : Int))
      rw [fill_step (fun i => ((belowTo xs i xs.length : Nat) : Int)) xs.length k hlt] at hst
      have hcc := World.ownsRow.cellAt hown2 k (by omega)
      have hfr := World.ownsRow.frozenAt hown2 k
      have hcc' : ∃ u, w2.cell? ⟨w.heap.size + 1, k, none⟩ = some u := by
        rw [hcc]
        exact ⟨_, List.getElem?_eq_getElem (by simp [fmap_len]; omega)⟩
      obtain ⟨u, hu⟩ := hcc'
      have hB2 := hB.below hb2
      have hB3 := hB2.kept hst.2 (by simp)
      have hbw := hb.trans (hb2.mono hb.size)
      have Hst := Lib.hid hst
      clear hst hcc hown hown2 hb2
      go_wp2_with fail
      go_roundw
      case rel => exact ⟨k + 1, by omega, by go_num, Hst.out.1, hbw.setCell (by simp) _, hB3⟩
      case measure => simp [intOf]; omega
    · obtain rfl : k = xs.length := by omega
      go_wp2_with fail
      go_ret
      rw [fill_end] at hown
      refine ⟨_, _, rfl, OwnI.mono (B := w.heap.size + 1) ?_ (by omega), hb⟩
      show World.ownsRow _ _ _ _ _ _ _
      rw [belows_len]
      exact hown

theorem sets_eq (xs : List Int) : Go.Lib.compact (srt (belows xs xs.length)) = sets xs := by
  refine inc_ext (compact_inc (srt_le _)) (setsTo_inc xs _) (fun x => ?_)
  rw [compact_mem (srt_le _), srt_mem, sets, setsTo_mem]
  simp only [belows, fmap, List.mem_map, List.mem_range]
  constructor
  · rintro ⟨j, hj, e⟩
    exact ⟨j, hj, e.symm⟩
  · rintro ⟨j, hj, e⟩
    exact ⟨j, hj, e.symm⟩
theorem lowerSets_any (n : Int) (a : Option Addr) (xs : List Int) (cap : Nat) (w : World) (hx : Rd w a xs) (hr : RelP n xs) :
    Calls Try.prog 93 #[.agg #[.int .i64 n, .slice a xs.length cap]] w fun e w' => ∃ a' cap', e = .returned (.slice a' (sets xs).length cap') ∧ OwnI w' w.heap.size (.slice a' (sets xs).length cap') (sets xs) ∧ Below w.heap.size w w' := by
  have hx1 := hx.alloc (.cells #[.int .i64 n, .slice a xs.length cap] 28)
  have HE := Lib.hid (sets_eq xs)
  go_enter Try.func93, Try.ntmps93
  go_wp2_with fail
  refine (belowSets_any _ _ _ _ _ hx1 hr).mono ?_
  rintro e w1 ⟨a1, cap1, rfl, ho1, hb1⟩
  have bw1 : Below w.heap.size w w1 := Below.trans (by repeat (first | exact Below.refl _ _ | assumption | refine Below.alloc ?_ (by first | exact Nat.le_refl _ | (simp only [World.size_alloc, World.size_setCell, World.size_drew]; omega) | omega) _ | refine Below.setCell ?_ (by first | exact Nat.le_refl _ | (simp only [World.size_alloc, World.size_setCell, World.size_drew]; omega) | omega) _ | refine Below.drew ?_)) (hb1.mono (by first | (simp only [World.size_alloc, World.size_setCell, World.size_drew]; omega) | omega))
  have o1 : OwnI w1 w.heap.size (.slice a1 (belows xs xs.length).length cap1) (belows xs xs.length) := by
    rw [belows_len]; exact ho1.mono (by simp)
  clear hb1 ho1
  go_wp2_with fail
  have hs := sortOwn a1 cap1 (belows xs xs.length) w.heap.size w1 (by rw [belows_len]; have := hr.len; have := hr.n1; omega) o1
  rw [belows_len] at hs
  refine hs.mono ?_
  rintro e w2 ⟨rfl, ho2, hg2⟩
  clear hs
  have hU := o1.lt
  rw [belows_len] at hU
  have bw2 := bw1.trans (below_of_grown hg2 (fun b e => (hU b e).1) bw1.size)
  have hsl : (srt (belows xs xs.length)).length = xs.length := by rw [srt_len, belows_len]
  have HSL := Lib.hid hsl
  clear hg2 hU o1 hsl
  go_wp2_with fail
  have hc := compactOwn a1 cap1 (srt (belows xs xs.length)) w.heap.size w2 ho2
  rw [HSL.out, HE.out] at hc
  refine hc.mono ?_
  rintro e w3 ⟨rfl, ho3, hg3⟩
  clear hc
  have hU := ho2.lt
  rw [HSL.out] at hU
  have bw3 := bw2.trans (below_of_grown hg3 (fun b e => (hU b e).1) bw2.size)
  clear hg3 hU ho2
  go_wp2_with fail
  go_ret
  exact ⟨a1, cap1, rfl, ho3, bw3⟩

theorem iLevels_any (n : Int) (a : Option Addr) (xs : List Int) (cap : Nat) (w : World) (hn : -9223372036854775808 ≤ n ∧ n ≤ 9223372036854775807) (hx : Rd w a xs) :
    Calls Try.prog 91 #[.agg #[.int .i64 n, .slice a xs.length cap]] w fun e w' => ∃ a' cap', e = .returned (.tuple #[.slice a' (levL n xs).length cap', .bool (isIv n xs)]) ∧ OwnI w' w.heap.size (.slice a' (levL n xs).length cap') (levL n xs) ∧ Below w.heap.size w w' := by
  have hx1 := hx.alloc (.cells #[.int .i64 n, .slice a xs.length cap] 28)
  obtain ⟨i0, hi, hz0, hz1, hz2⟩ := info_parts infoInt
  cases hr : isIv n xs
  · have H1 : Hid (levL n xs = []) := by simp [Hid, levL, hr]
    have HR := Lib.hid hr
    clear hr
    go_enter Try.func91, Try.ntmps91
    go_wp2_with fail
    refine (iIsInterval_any _ _ _ _ _ hn hx1).mono ?_
    rw [HR.out]
    rintro e w1 ⟨rfl, hb1⟩
    have bw1 : Below w.heap.size w w1 := Below.trans (by repeat (first | exact Below.refl _ _ | assumption | refine Below.alloc ?_ (by first | exact Nat.le_refl _ | (simp only [World.size_alloc, World.size_setCell, World.size_drew]; omega) | omega) _ | refine Below.setCell ?_ (by first | exact Nat.le_refl _ | (simp only [World.size_alloc, World.size_setCell, World.size_drew]; omega) | omega) _ | refine Below.drew ?_)) (hb1.mono (by first | (simp only [World.size_alloc, World.size_setCell, World.size_drew]; omega) | omega))
    go_wp2_with fail
    refine bodyPost_ret (v := .tuple #[.slice none 0 0, .bool false]) (by simp [results, Try.results91, go_sem]) rfl ?_
    exact ⟨none, 0, by rw [H1.out]; rfl, by rw [H1.out]; exact OwnI.nil _ _, bw1⟩
  · have ho := isIv_ord hr
    have hp := ord_rel ho
    have H1 : Hid (levL n xs = levs xs xs.length) := by simp [Hid, levL, hr]
    have HR := Lib.hid hr
    have HO := Lib.hid ho
    obtain rfl : n = (xs.length : Int) := hp.len.symm
    have hl10 : xs.length ≤ 10 := by have := hp.n1; omega
    clear hr ho
    go_enter Try.func91, Try.ntmps91
    go_wp2_with fail
    refine (iIsInterval_any _ _ _ _ _ hn hx1).mono ?_
    rw [HR.out, HO.out]
    rintro e w1 ⟨rfl, hb1⟩
    have A1 : Box2 w1 w.heap.size (.int .i64 (xs.length : Int)) (.slice a xs.length cap) := (Box2.new w _ _ _).below hb1
    have bw1 : Below w.heap.size w w1 := Below.trans (by repeat (first | exact Below.refl _ _ | assumption | refine Below.alloc ?_ (by first | exact Nat.le_refl _ | (simp only [World.size_alloc, World.size_setCell, World.size_drew]; omega) | omega) _ | refine Below.setCell ?_ (by first | exact Nat.le_refl _ | (simp only [World.size_alloc, World.size_setCell, World.size_drew]; omega) | omega) _ | refine Below.drew ?_)) (hb1.mono (by first | (simp only [World.size_alloc, World.size_setCell, World.size_drew]; omega) | omega))
    have ⟨zA, cA, dA⟩ := A1
    clear hb1
    go_wp2_with fail
    refine (lowerSets_any _ _ _ _ _ (hx.below bw1) hp).mono ?_
    obtain ⟨ss, hss⟩ : ∃ ss, ss = sets xs := ⟨_, rfl⟩
    have hbd : ∀ m, m < ss.length → 0 ≤ nth ss m ∧ nth ss m < 1024 := fun m hm => by rw [hss] at hm ⊢; exact setsTo_bd hl10 hm
    have hlv : ∀ i, lv xs i = ((lvTo ss ((belowTo xs (i : Int) xs.length : Nat) : Int) ss.length : Nat) : Int) := fun i => by rw [hss]; rfl
    have hsl : ss.length ≤ xs.length := by rw [hss]; exact sets_len xs
    rw [← hss]
    have HBD := Lib.hid hbd
    have HLV := Lib.hid hlv
    clear hss hbd hlv
    rintro e w2 ⟨a2, cap2, rfl, ho2, hb2⟩
    have A2 := A1.below hb2
    have bw2 := bw1.trans (hb2.mono bw1.size)
    have hrs := ho2.rd
    have zw2 : w.heap.size + 1 ≤ w2.heap.size := by have := A2.1; omega
    clear zA cA dA A1 hb2
    have ⟨zA, cA, dA⟩ := A2
    go_wp2_with (at_make; refine wpList_make_full _ rfl (.tmp 22) (.tmp 22) 22 rfl w2.heap.size 3 i0 (.int .i64 0) 1 Try.underlying22 hi hz0 hz1 .i64 .i64 _ _ xs.length rfl rfl rfl rfl (by rw [hz2]; omega) (by unfold maxLen; omega) (Nat.le_refl _) ?_; intro w3 hown hgrow; have A3 := A2.kept hgrow (by simp))
    have hb3 : Below w2.heap.size w2 w3 := (Below.refl _ _).grown hgrow (Nat.le_refl _) (fun k h => by cases h)
    have hown0 := made_row (lv xs) hown
    clear hown hgrow cA dA zA A2
    go_wp2_with fail
    go_loopw [26] (fun i wr => ∃ k : Nat, k ≤ xs.length ∧ i = .int .i64 k ∧ OwnI wr w2.heap.size (.slice (some ⟨w2.heap.size, 0, none⟩) xs.length xs.length) (rowF (lv xs) xs.length k) ∧ Below w2.heap.size w2 wr ∧ Box2 wr w.heap.size (.int .i64 (xs.length : Int)) (.slice a xs.length cap)) (fun i _ => xs.length - (intOf i).toNat)
    case atStart => exact ⟨0, Nat.zero_le _, rfl, hown0, hb3, A3⟩
    case round =>
      obtain ⟨k, hk, rfl, hown, hb, hA⟩ := hrel
      have ⟨zB, cB, dB⟩ := hA
      by_cases hlt : k < xs.length
      · have k0 : (0 : Int) ≤ (k : Int) := by omega
        have k1 : (k : Int) < (xs.length : Int) := by omega
        have hbt := belowTo_small xs (k : Int) (k := xs.length) hl10
        go_wp2_with fail
        refine (belowSet_any _ _ _ _ _ _ (hx.below (bw2.trans (hb.mono bw2.size))) hp k0).mono ?_
        rintro e w4 ⟨rfl, hb4⟩
        have A4 := hA.below hb4
        have b4 := hb.trans (hb4.mono hb.size)
        have o4 := hown.below hb4 (Nat.le_refl _)
        clear cB dB hb4 hown
        go_wp2_with fail
        go_loopw [34] (fun i' wi => ∃ j : Nat, j ≤ ss.length ∧ i' = .int .i64 j ∧ OwnI wi w2.heap.size (.slice (some ⟨w2.heap.size, 0, none⟩) xs.length xs.length) ((rowF (lv xs) xs.length k).set k ((lvTo ss ((belowTo xs (k : Int) xs.length : Nat) : Int) j : Nat) : Int)) ∧ Below w2.heap.size w2 wi ∧ Box2 wi w.heap.size (.int .i64 (xs.length : Int)) (.slice a xs.length cap)) (fun i _ => ss.length - (intOf i).toNat)
        case atStart => exact ⟨0, Nat.zero_le _, rfl, by rw [lvTo, show (((0 : Nat) : Nat) : Int) = 0 from rfl, rowF_zero _ hlt]; exact o4, b4, A4⟩
        case round =>
          obtain ⟨j, hj, rfl, hown, hb, hA⟩ := hrel
          by_cases hjl : j < ss.length
          · obtain ⟨b2, off2, rfl, hbl2, hc2⟩ := (hrs.below hb).cell j hjl
            have ⟨s0, s1⟩ := HBD.out j hjl
            have hle := lvTo_le ss ((belowTo xs (k : Int) xs.length : Nat) : Int) j
            cases hne : (nth ss j != ((belowTo xs (k : Int) xs.length : Nat) : Int))
            · have HN := Lib.hid (lessB_ne hne)
              go_wp2_with fail
              go_roundw
              case rel => exact ⟨j + 1, by omega, by go_num, by simp only [lvTo, HN.out]; exact hown, hb, hA⟩
              case measure => simp [intOf]; omega
            · have hsb := lessB_sub s0 s1 hbt hne
              cases hlb : lessB (nth ss j) ((belowTo xs (k : Int) xs.length : Nat) : Int)
              · rw [hlb] at hsb
                have HN := Lib.hid hlb
                clear hlb
                go_wp2_with fail
                go_roundw
                case rel => exact ⟨j + 1, by omega, by go_num, by simp only [lvTo, HN.out]; exact hown, hb, hA⟩
                case measure => simp [intOf]; omega
              · rw [hlb] at hsb
                have HN := Lib.hid hlb
                clear hlb
                obtain ⟨row, hrow⟩ : ∃ row, row = (rowF (lv xs) xs.length k).set k ((lvTo ss ((belowTo xs (k : Int) xs.length : Nat) : Int) j : Nat) : Int) := ⟨_, rfl⟩
                have hrl : row.length = xs.length := by rw [hrow, List.length_set, rowF_len _ hk]
                have hrk : nth row k = ((lvTo ss ((belowTo xs (k : Int) xs.length : Nat) : Int) j : Nat) : Int) := by rw [hrow, nth_set (by rw [rowF_len _ hk]; exact hlt), if_pos rfl]
                have hrs : ∀ y, row.set k y = (rowF (lv xs) xs.length k).set k y := by intro y; rw [hrow, List.set_set]
                rw [← hrow] at hown
                have ⟨ci, fi⟩ := hown.at' hrl.symm (i := k) (by omega)
                rw [hrk] at ci
                have hput := hown.put hrl.symm k ((lvTo ss ((belowTo xs (k : Int) xs.length : Nat) : Int) j + 1 : Nat) : Int)
                rw [hrs] at hput
                have HP := Lib.hid hput
                clear hput hrow hrl hrk hrs hown
                go_wp2_with fail
                go_roundw
                case rel =>
                  refine ⟨j + 1, by omega, by go_num, ?_, hb.setCell (p := ⟨w2.heap.size, k, none⟩) (Nat.le_refl _) _, hA.set (p := ⟨w2.heap.size, k, none⟩) _ (show w.heap.size ≠ w2.heap.size by omega)⟩
                  have := HP.out.1
                  simp only [lvTo, HN.out, if_true]
                  exact this
                case measure => simp [intOf]; omega
          · obtain rfl : j = ss.length := by omega
            have hnext : (rowF (lv xs) xs.length k).set k ((lvTo ss ((belowTo xs (k : Int) xs.length : Nat) : Int) ss.length : Nat) : Int) = rowF (lv xs) xs.length (k + 1) := by
              rw [← rowF_set _ hlt, HLV.out]
            rw [hnext] at hown
            have HN := Lib.hid hown
            clear hnext hown
            go_wp2_with fail
            go_roundw
            case rel => exact ⟨k + 1, by omega, by go_num, HN.out, hb, hA⟩
            case measure => simp [intOf]; omega
      · obtain rfl : k = xs.length := by omega
        rw [rowF_end] at hown
        go_wp2_with fail
        refine bodyPost_ret (v := .tuple #[.slice (some ⟨w2.heap.size, 0, none⟩) xs.length xs.length, .bool true]) (by simp [results, Try.results91, go_sem]) rfl ?_
        exact ⟨some ⟨w2.heap.size, 0, none⟩, xs.length, by rw [H1.out, levs_len], by rw [H1.out, levs_len]; exact hown.mono bw2.size, bw2.trans (hb.mono bw2.size)⟩

/-- the row while the right end of k is being found -/
def endRow (xs : List Int) (k j : Nat) : List Int := ((rowP (lv xs) (rtE xs) xs.length k).set (k * 2) (lv xs k)).set (k * 2 + 1) (rtTo 0 xs k j)
theorem endRow_len (xs : List Int) {k : Nat} (j : Nat) (h : k ≤ xs.length) : (endRow xs k j).length = xs.length * 2 := by
  rw [endRow, List.length_set, List.length_set, rowP_len _ _ h]
theorem endRow_zero (xs : List Int) {k : Nat} (h : k < xs.length) : (rowP (lv xs) (rtE xs) xs.length k).set (k * 2) (lv xs k) = endRow xs k 0 := by
  have hl := rowP_len (lv xs) (rtE xs) (Nat.le_of_lt h)
  apply nth_ext' (by rw [endRow_len xs 0 (by omega), List.length_set, hl])
  intro i hi
  rw [List.length_set, hl] at hi
  rw [endRow, nth_set' (xs := (rowP (lv xs) (rtE xs) xs.length k).set (k * 2) (lv xs k)) (by rw [List.length_set, hl]; omega)]
  by_cases e : k * 2 + 1 = i
  · subst e
    rw [if_pos rfl, nth_set' (by rw [hl]; omega), if_neg (by omega), rowP_nth _ _ (by omega) hi, if_neg (by omega)]
    rfl
  · rw [if_neg e]
theorem endRow_end (xs : List Int) {k : Nat} (h : k < xs.length) : endRow xs k xs.length = rowP (lv xs) (rtE xs) xs.length (k + 1) := rowP_next _ _ h
theorem endRow_set (xs : List Int) (k j : Nat) (y : Int) : (endRow xs k j).set (k * 2 + 1) y = ((rowP (lv xs) (rtE xs) xs.length k).set (k * 2) (lv xs k)).set (k * 2 + 1) y := by
  rw [endRow, List.set_set]
theorem endRow_nth (xs : List Int) {k : Nat} (j : Nat) (h : k < xs.length) : nth (endRow xs k j) (k * 2 + 1) = rtTo 0 xs k j := by
  rw [endRow, nth_set' (by rw [List.length_set, rowP_len _ _ (by omega)]; omega), if_pos rfl]
theorem endRow_yes {xs : List Int} {k j : Nat} (h : hasB (nth xs k) j = true) : endRow xs k (j+1) = endRow xs k j := by
  rw [endRow, endRow, rtTo, if_pos h]
theorem iEnds_any (n : Int) (a : Option Addr) (xs : List Int) (cap : Nat) (w : World) (hn : -9223372036854775808 ≤ n ∧ n ≤ 9223372036854775807) (hx : Rd w a xs) :
    Calls Try.prog 59 #[.agg #[.int .i64 n, .slice a xs.length cap]] w (GotV w (endN n xs) (endL n xs) (isIv n xs)) := by
  have hx1 := hx.alloc (.cells #[.int .i64 n, .slice a xs.length cap] 28)
  obtain ⟨i0, hi, hz0, hz1, hz2⟩ := info_parts infoIv
  cases hr : isIv n xs
  · have H1 : Hid (endN n xs = 0) := by simp [Hid, endN, hr]
    have H2 : Hid (endL n xs = []) := by simp [Hid, endL, hr]
    have H3 : Hid (levL n xs = []) := by simp [Hid, levL, hr]
    have HR := Lib.hid hr
    clear hr
    go_enter Try.func59, Try.ntmps59
    go_wp2_with fail
    refine (iLevels_any _ _ _ _ _ hn hx1).mono ?_
    rw [HR.out, H3.out]
    rintro e w1 ⟨a1, cap1, rfl, ho1, hb1⟩
    have bw1 : Below w.heap.size w w1 := Below.trans (by repeat (first | exact Below.refl _ _ | assumption | refine Below.alloc ?_ (by first | exact Nat.le_refl _ | (simp only [World.size_alloc, World.size_setCell, World.size_drew]; omega) | omega) _ | refine Below.setCell ?_ (by first | exact Nat.le_refl _ | (simp only [World.size_alloc, World.size_setCell, World.size_drew]; omega) | omega) _ | refine Below.drew ?_)) (hb1.mono (by first | (simp only [World.size_alloc, World.size_setCell, World.size_drew]; omega) | omega))
    clear ho1
    go_wp2_with fail
    refine bodyPost_ret (v := .tuple #[.slice none 0 0, .bool false]) (by simp [results, Try.results59, go_sem]) rfl ?_
    exact ⟨none, 0, by rw [H1.out], by rw [H1.out, H2.out]; exact OwnV.nil _ _, bw1⟩
  · have ho := isIv_ord hr
    have hp := ord_rel ho
    have H1 : Hid (endN n xs = xs.length) := by simp [Hid, endN, hr]
    have H2 : Hid (endL n xs = endp xs xs.length) := by simp [Hid, endL, hr]
    have H3 : Hid (levL n xs = levs xs xs.length) := by simp [Hid, levL, hr]
    have HR := Lib.hid hr
    obtain rfl : n = (xs.length : Int) := hp.len.symm
    have hl10 : xs.length ≤ 10 := by have := hp.n1; omega
    clear hr ho
    go_enter Try.func59, Try.ntmps59
    go_wp2_with fail
    refine (iLevels_any _ _ _ _ _ hn hx1).mono ?_
    rw [HR.out, H3.out, levs_len]
    rintro e w1 ⟨a1, cap1, rfl, ho1, hb1⟩
    have A1 : Box2 w1 w.heap.size (.int .i64 (xs.length : Int)) (.slice a xs.length cap) := (Box2.new w _ _ _).below hb1
    have bw1 : Below w.heap.size w w1 := Below.trans (by repeat (first | exact Below.refl _ _ | assumption | refine Below.alloc ?_ (by first | exact Nat.le_refl _ | (simp only [World.size_alloc, World.size_setCell, World.size_drew]; omega) | omega) _ | refine Below.setCell ?_ (by first | exact Nat.le_refl _ | (simp only [World.size_alloc, World.size_setCell, World.size_drew]; omega) | omega) _ | refine Below.drew ?_)) (hb1.mono (by first | (simp only [World.size_alloc, World.size_setCell, World.size_drew]; omega) | omega))
    have ⟨zA, cA, dA⟩ := A1
    have hrl : Rd w1 a1 (levs xs xs.length) := ho1.rd
    clear hb1 ho1
    go_wp2_with (at_make; refine wpList_make_full _ rfl (.tmp 19) (.tmp 19) 65 rfl w1.heap.size 71 i0 (.agg #[.int .i64 0, .int .i64 0]) 2 Try.underlying65 hi hz0 hz1 .i64 .i64 _ _ xs.length rfl rfl rfl rfl (by rw [hz2]; omega) (by unfold maxLen; omega) (Nat.le_refl _) ?_; intro w2 hown hgrow; have A2 := A1.kept hgrow (by simp))
    have hb2 : Below w1.heap.size w1 w2 := (Below.refl _ _).grown hgrow (Nat.le_refl _) (fun k h => by cases h)
    have hown0 := made_rowP (lv xs) (rtE xs) hown
    clear hown hgrow cA dA
    go_wp2_with fail
    go_loopw [23] (fun i wr => ∃ k : Nat, k ≤ xs.length ∧ i = .int .i64 k ∧ OwnV wr w1.heap.size (.slice (some ⟨w1.heap.size, 0, none⟩) xs.length xs.length) xs.length (rowP (lv xs) (rtE xs) xs.length k) ∧ Below w1.heap.size w1 wr ∧ Box2 wr w.heap.size (.int .i64 (xs.length : Int)) (.slice a xs.length cap)) (fun i _ => xs.length - (intOf i).toNat)
    case atStart => exact ⟨0, Nat.zero_le _, rfl, hown0, hb2, A2⟩
    case round =>
      obtain ⟨k, hk, rfl, hown, hb, hA⟩ := hrel
      by_cases hlt : k < xs.length
      · obtain ⟨b, off, rfl, hbl, hck⟩ := (hrl.below hb).cell k (by rw [levs_len]; exact hlt)
        rw [levs_nth xs hlt] at hck
        have k0 : (0 : Int) ≤ (k : Int) := by omega
        have k1 : (k : Int) < (xs.length : Int) := by omega
        have hpl := rowP_len (lv xs) (rtE xs) hk
        have ⟨c1, f1⟩ := hown.at' (i := k * 2) (by omega)
        have p1 := hown.put (k * 2) (lv xs k)
        rw [endRow_zero xs hlt] at p1
        have P1 := Lib.hid p1.1
        have A3 := hA.kept p1.2 (by simp; omega)
        have b3 := hb.setCell (p := ⟨w1.heap.size, k * 2, none⟩) (Nat.le_refl _) (.int .i64 (lv xs k))
        clear hown p1 hpl
        go_wp2_with fail
        go_loopw [35] (fun i' wi => ∃ j : Nat, j ≤ xs.length ∧ i' = .int .i64 j ∧ OwnV wi w1.heap.size (.slice (some ⟨w1.heap.size, 0, none⟩) xs.length xs.length) xs.length (endRow xs k j) ∧ Below w1.heap.size w1 wi ∧ Box2 wi w.heap.size (.int .i64 (xs.length : Int)) (.slice a xs.length cap)) (fun i _ => xs.length - (intOf i).toNat)
        case atStart => exact ⟨0, Nat.zero_le _, rfl, P1.out, b3, A3⟩
        case round =>
          obtain ⟨j, hj, rfl, hown, hb, hA⟩ := hrel
          have ⟨zB, cB, dB⟩ := hA
          by_cases hjl : j < xs.length
          · obtain ⟨b2, off2, e2, hbl2, hcj⟩ := (hrl.below hb).cell j (by rw [levs_len]; exact hjl)
            simp only [Option.some.injEq, Addr.mk.injEq, and_true] at e2
            obtain ⟨rfl, rfl⟩ := e2
            rw [levs_nth xs hjl] at hcj
            obtain ⟨b3, off3, rfl, hbl3, hc3⟩ := (hx.below (bw1.trans (hb.mono bw1.size))).cell k hlt
            have s0 := hp.pos k hlt
            have s2 : nth xs k ≤ 9223372036854775807 := by have := hp.small k hlt; omega
            have j0 : (0 : Int) ≤ (j : Int) := by omega
            have j1 : (j : Int) < (xs.length : Int) := by omega
            cases hhas : hasB (nth xs k) j
            · have hel := endRow_len xs (k := k) j hk
              have ⟨c2, f2⟩ := hown.at' (i := k * 2 + 1) (by omega)
              rw [endRow_nth xs j hlt] at c2
              have ⟨r0, r1⟩ := rtTo_bd (st := 0) (xs := xs) (i := k) (k := j) (by omega) (by omega)
              have ⟨l0, l1⟩ := lv_bd xs j
              have p2 := hown.put (k * 2 + 1) (rtTo 0 xs k (j + 1))
              rw [endRow_set] at p2
              have P2 := Lib.hid p2.1
              have A4 := hA.kept p2.2 (by simp; omega)
              have b4 := hb.setCell (p := ⟨w1.heap.size, k * 2 + 1, none⟩) (Nat.le_refl _) (.int .i64 (rtTo 0 xs k (j + 1)))
              have hmx : max (rtTo 0 xs k j) (lv xs j) = rtTo 0 xs k (j + 1) := by rw [rtTo_no hhas, maxI]; split <;> omega
              have HM := Lib.hid hmx
              clear p2 hel hown hmx
              go_wp2_with (go_at_call 83; refine (hasElement_any _ _ _ (by assumption) (by assumption) (by assumption)).mono ?_; rintro e w' ⟨rfl, rfl⟩)
              go_roundw
              case rel => rw [HM.out]; exact ⟨j + 1, by omega, by go_num, P2.out, b4, A4⟩
              case measure => simp [intOf]; omega
            · have HE := Lib.hid (endRow_yes hhas)
              go_wp2_with (go_at_call 83; refine (hasElement_any _ _ _ (by assumption) (by assumption) (by assumption)).mono ?_; rintro e w' ⟨rfl, rfl⟩)
              go_roundw
              case rel => exact ⟨j + 1, by omega, by go_num, by rw [HE.out]; exact hown, hb, hA⟩
              case measure => simp [intOf]; omega
          · obtain rfl : j = xs.length := by omega
            rw [endRow_end xs hlt] at hown
            go_wp2_with fail
            go_roundw
            case rel => exact ⟨k + 1, by omega, by go_num, hown, hb, hA⟩
            case measure => simp [intOf]; omega
      · obtain rfl : k = xs.length := by omega
        rw [rowP_end] at hown
        go_wp2_with fail
        refine bodyPost_ret (v := .tuple #[.slice (some ⟨w1.heap.size, 0, none⟩) xs.length xs.length, .bool true]) (by simp [results, Try.results59, go_sem]) rfl ?_
        exact ⟨some ⟨w1.heap.size, 0, none⟩, xs.length, by rw [H1.out], by rw [H1.out, H2.out]; exact hown.mono bw1.size, bw1.trans (hb.mono bw1.size)⟩

theorem ret_ib' {a a' : Int} {b b' : Bool} (h1 : a = a') (h2 : b = b') : Ending.returned (.tuple #[.int .i64 a, .bool b]) = .returned (.tuple #[.int .i64 a', .bool b']) := by rw [h1, h2]

theorem iMagnitude_any (n : Int) (a : Option Addr) (xs : List Int) (cap : Nat) (w : World) (hn : -9223372036854775808 ≤ n ∧ n ≤ 9223372036854775807) (hx : Rd w a xs) :
    Calls Try.prog 60 #[.agg #[.int .i64 n, .slice a xs.length cap]] w fun e w' => e = .returned (.tuple #[.int .i64 (magF n xs), .bool (isIv n xs)]) ∧ Below w.heap.size w w' := by
  have hx1 := hx.alloc (.cells #[.int .i64 n, .slice a xs.length cap] 28)
  cases hr : isIv n xs
  · have H1 : Hid (magF n xs = 0) := by simp [Hid, magF, hr]
    have HR := Lib.hid hr
    clear hr
    go_enter Try.func60, Try.ntmps60
    go_wp2_with fail
    refine (iIsInterval_any _ _ _ _ _ hn hx1).mono ?_
    rw [HR.out]
    rintro e w1 ⟨rfl, hb1⟩
    have bw1 : Below w.heap.size w w1 := Below.trans (by repeat (first | exact Below.refl _ _ | assumption | refine Below.alloc ?_ (by first | exact Nat.le_refl _ | (simp only [World.size_alloc, World.size_setCell, World.size_drew]; omega) | omega) _ | refine Below.setCell ?_ (by first | exact Nat.le_refl _ | (simp only [World.size_alloc, World.size_setCell, World.size_drew]; omega) | omega) _ | refine Below.drew ?_)) (hb1.mono (by first | (simp only [World.size_alloc, World.size_setCell, World.size_drew]; omega) | omega))
    go_wp2_with fail
    go_ret2
    exact ⟨ret_ib' H1.out.symm rfl, bw1⟩
  · have ho := isIv_ord hr
    have hp := ord_rel ho
    have hsl := sets_len xs
    have hl10 : xs.length ≤ 10 := by have := hp.len; have := hp.n1; omega
    have H1 : Hid (magF n xs = ((sets xs).length : Int)) := by rw [Hid, magF, if_pos hr]
    have HR := Lib.hid hr
    have HO := Lib.hid ho
    clear hr ho
    go_enter Try.func60, Try.ntmps60
    go_wp2_with fail
    refine (iIsInterval_any _ _ _ _ _ hn hx1).mono ?_
    rw [HR.out, HO.out]
    rintro e w1 ⟨rfl, hb1⟩
    have A1 : Box2 w1 w.heap.size (.int .i64 n) (.slice a xs.length cap) := (Box2.new w _ _ _).below hb1
    have bw1 : Below w.heap.size w w1 := Below.trans (by repeat (first | exact Below.refl _ _ | assumption | refine Below.alloc ?_ (by first | exact Nat.le_refl _ | (simp only [World.size_alloc, World.size_setCell, World.size_drew]; omega) | omega) _ | refine Below.setCell ?_ (by first | exact Nat.le_refl _ | (simp only [World.size_alloc, World.size_setCell, World.size_drew]; omega) | omega) _ | refine Below.drew ?_)) (hb1.mono (by first | (simp only [World.size_alloc, World.size_setCell, World.size_drew]; omega) | omega))
    have ⟨zA, cA, dA⟩ := A1
    clear hb1
    go_wp2_with fail
    refine (lowerSets_any _ _ _ _ _ (hx.below bw1) hp).mono ?_
    rintro e w2 ⟨a2, cap2, rfl, ho2, hb2⟩
    clear ho2
    go_wp2_with fail
    go_ret2
    exact ⟨ret_ib' H1.out.symm rfl, bw1.trans (hb2.mono bw1.size)⟩

set_option maxRecDepth 100000 in
set_option maxHeartbeats 1000000 in
theorem iMxOrd_any (n : Int) (a : Option Addr) (xs : List Int) (cap : Nat) (w : World) (hn : -9223372036854775808 ≤ n ∧ n ≤ 9223372036854775807) (hx : Rd w a xs) :
    Calls Try.prog 25 #[.agg #[.int .i64 n, .slice a xs.length cap]] w fun e w' => ∃ a0 c0 vl, e = .returned (.tuple #[.agg #[.slice a0 (moL n xs).length c0], .bool (isIv n xs)]) ∧ RowsP w' w.heap.size (.slice a0 (moL n xs).length c0) vl (moL n xs) ∧ Below w.heap.size w w' := by
  have hlen := hx.len
  have hV := Var1.new (w.alloc (.cells #[.int .i64 n, .slice a xs.length cap] 28)) (.slice none 0 0) 39
  have hb0 : Below w.heap.size w ((w.alloc (.cells #[.int .i64 n, .slice a xs.length cap] 28)).alloc (.cells #[.slice none 0 0] 39)) := (by repeat (first | exact Below.refl _ _ | assumption | refine Below.alloc ?_ (by first | exact Nat.le_refl _ | (simp only [World.size_alloc, World.size_setCell, World.size_drew]; omega) | omega) _ | refine Below.setCell ?_ (by first | exact Nat.le_refl _ | (simp only [World.size_alloc, World.size_setCell, World.size_drew]; omega) | omega) _ | refine Below.drew ?_))
  have hA := (Box2.new w (.int .i64 n) (.slice a xs.length cap) 28).below ((Below.refl _ _).alloc (Nat.le_refl _) (.cells #[.slice none 0 0] 39))
  rw [World.size_alloc] at hV
  have HCL := Lib.hid (fun W (h : Rd W a xs) => iEnds_any n a xs cap W hn h)
  cases hm : isIv n xs
  · have HM := Lib.hid hm
    have H1 : Hid (moL n xs = []) := by simp [Hid, moL, hm]
    clear hm
    go_enter Try.func25, Try.ntmps25
    go_wp2_with fail
    refine (HCL.out _ (hx.below hb0)).mono ?_
    rintro e w1 ⟨ag, cg, rfl, ho, hb⟩
    rw [HM.out]
    have b1 : Below w.heap.size w w1 := hb0.trans (hb.mono (by simp; omega))
    have hV1 := hV.below hb
    have ⟨⟨zV, cV⟩, fV⟩ := hV1
    clear hb hV ho
    go_wp2_with fail
    have hV2 := hV1.set (.slice none 0 0)
    have b2 := b1.setCell (p := ⟨w.heap.size + 1, 0, none⟩) (by simp) (.slice none 0 0)
    refine bodyPost_ret (v := .tuple #[.agg #[.slice none 0 0], .bool false]) (by have ⟨⟨_, q1⟩, _⟩ := hV2; simp [results, Try.results25, go_sem, q1]) rfl ?_
    exact ⟨none, 0, [], by rw [H1.out]; rfl, by rw [H1.out]; exact RowsP.nil _ _, b2⟩
  · have HM := Lib.hid hm
    have hp := ord_rel (isIv_ord hm)
    have h10 : xs.length ≤ 10 := by have := hp.len; have := hp.n1; omega
    have hsl := sets_len xs
    have HE : Hid (∀ k, k < xs.length → (0 ≤ lv xs k ∧ lv xs k < ((sets xs).length : Int)) ∧ (0 ≤ rtE xs k ∧ rtE xs k < ((sets xs).length : Int))) := fun k hk => ends_in hm hk
    have H1 : Hid (moL n xs = sqM (cntE xs xs.length) (sets xs).length (sets xs).length) := by rw [Hid, moL, if_pos hm]
    have H2 : Hid (magF n xs = ((sets xs).length : Int)) := by rw [Hid, magF, if_pos hm]
    have H3 : Hid (endL n xs = endp xs xs.length) := by rw [Hid, endL, if_pos hm]
    have H4 : Hid (endN n xs = xs.length) := by rw [Hid, endN, if_pos hm]
    obtain ⟨D, hD⟩ : ∃ D, D = (sets xs).length := ⟨_, rfl⟩
    rw [← hD] at hsl HE H1 H2
    have HX := Lib.hid hx
    have HN := Lib.hid hn
    clear hm hp hx hD hn
    go_enter Try.func25, Try.ntmps25
    go_wp2_with fail
    refine (HCL.out _ (HX.out.below hb0)).mono ?_
    rintro e w1 ⟨ag, cg, rfl, ho, hb⟩
    rw [HM.out]
    rw [H3.out, H4.out] at ho
    rw [H4.out]
    have b1 : Below w.heap.size w w1 := hb0.trans (hb.mono (by simp; omega))
    have hV1 := hV.below hb
    have hA1 := hA.below hb
    have ⟨zA, cA, dA⟩ := hA1
    have hz1 : w.heap.size + 2 ≤ w1.heap.size := by have := hb.size; simp at this; omega
    have HO := Lib.hid ho
    have HV1 := Lib.hid hV1
    clear hb hV hb0 HCL ho hV1 hA hA1
    go_wp2_with fail
    refine (iMagnitude_any n a xs cap _ HN.out (HX.out.below b1)).mono ?_
    rintro e w2 ⟨rfl, hb2⟩
    rw [H2.out]
    have b2 := b1.trans (hb2.mono b1.size)
    have HO2 := Lib.hid (HO.out.below hb2 (Nat.le_refl _))
    have HV2 := Lib.hid (HV1.out.below hb2)
    have hz2 : w.heap.size + 2 ≤ w2.heap.size := by have := hb2.size; omega
    clear hb2 HO HV1 cA dA
    go_wp2_with fail
    refine (zeroRows_any D _ (by omega)).mono ?_
    rintro e w3 ⟨g, vl, rfl, hro, hb3⟩
    have b3 := b2.trans (hb3.mono b2.size)
    have hbk := HO2.out.lt
    have HRO := Lib.hid (hro.mono (B' := w2.heap.size) (Nat.le_refl _))
    have HO3 := Lib.hid ((HO2.out.below hb3 (Nat.le_refl _)).rd (by omega))
    have HV3 := Lib.hid (HV2.out.below hb3)
    have hs3 := hb3.size
    have HRd : Hid (∀ W, Below w2.heap.size w2 W → Rd W ag (endp xs xs.length)) := fun W h => (HO2.out.rd (by omega)).below h
    have bb3 : Below w2.heap.size w2 w3 := hb3
    have hz : sqM (fun _ _ => 0) D D = sqM (cntE xs 0) D D := sqM_congr (fun i hi j hj => rfl)
    rw [hz] at HRO
    clear hro hb3 HO2 hbk hz
    go_wp2_with fail
    go_loopw [28] (fun i wr => ∃ k : Nat, k ≤ xs.length ∧ i = .int .i64 k ∧ RowsP wr w2.heap.size (.slice (some ⟨g, 0, none⟩) D D) vl (sqM (cntE xs k) D D) ∧ Below w2.heap.size w2 wr) (fun i _ => xs.length - (intOf i).toNat)
    case atStart => exact ⟨0, Nat.zero_le _, rfl, HRO.out, bb3⟩
    case round =>
      obtain ⟨k, hk, rfl, hro, hb⟩ := hrel
      have hbs := hb.size
      have HRO := Lib.hid hro
      by_cases hlt : k < xs.length
      · have k1 : (k : Int) < (xs.length : Int) := by omega
        obtain ⟨b5, off5, rfl, hb5, hcl, hcr⟩ := (HRd.out wr hb).pair (prs_len _ _ _) hlt
        rw [endp, prs_lft _ _ hlt] at hcl
        rw [endp, prs_rgt _ _ hlt] at hcr
        have ⟨⟨l0, l1⟩, ⟨r0, r1⟩⟩ := HE.out k hlt
        obtain ⟨L, hL⟩ := Int.eq_ofNat_of_zero_le l0
        obtain ⟨R, hR⟩ := Int.eq_ofNat_of_zero_le r0
        have HST : Hid (L < D → R < D → setM (sqM (cntE xs k) D D) L R (cntE xs k L R + 1) = sqM (cntE xs (k+1)) D D) := fun h1 h2 => cntE_step hL hR h1 h2
        rw [hL] at l0 l1 hcl
        rw [hR] at r0 r1 hcr
        have hLd : L < D := by omega
        have hRd : R < D := by omega
        clear hL hR
        obtain ⟨g4, e4, hg4, hg5, hc4, hf4⟩ := hro.outer (k := L) (by rw [sqM_len]; exact hLd)
        simp only [Option.some.injEq, Addr.mk.injEq, and_true] at e4
        subst e4
        obtain ⟨g6, c6, e6, hg6, hg7, hc6, hf6, hnew⟩ := hro.num (i := L) (j := R) (by rw [sqM_len]; exact hLd) (by rw [sqM_rlen hLd]; exact hRd)
        rw [e6, sqM_rlen hLd] at hc4
        rw [sqM_at hLd hRd] at hc6
        have hn2 := hnew (cntE xs k L R + 1)
        rw [HST.out hLd hRd] at hn2
        have ⟨hb1, hb2⟩ := cntE_bd xs L R k
        obtain ⟨Z, hZ⟩ : ∃ Z, Z = cntE xs k L R := ⟨_, rfl⟩
        rw [← hZ] at hc6 hn2 hb1 hb2
        have hal : Below w2.heap.size w2 ((wr.setCell ⟨g6, R, none⟩ (.int .i64 (Z + 1))).alloc (.cells #[.int .i64 (L : Int), .int .i64 (R : Int)] 71)) := (hb.setCell (p := ⟨g6, R, none⟩) hg6 _).alloc (by simpa using hbs) _
        have hn3 := hn2.below ((Below.refl _ _).alloc (Nat.le_refl _) (.cells #[.int .i64 (L : Int), .int .i64 (R : Int)] 71)) (Nat.le_refl _)
        have HN3 := Lib.hid hn3
        clear hro hnew hn2 hn3 e6 hZ
        go_wp2_with fail
        go_region
        all_goals
          go_wp2_with fail
          go_roundw
          case rel =>
            refine ⟨k + 1, by omega, by go_num, ?_, ?_⟩
            · first
              | exact HN3.out
              | exact HN3.out.below (Below.refl _ _).drew (Nat.le_refl _)
            · first
              | exact hal
              | exact hal.drew
          case measure => simp [intOf]; omega
      · obtain rfl : k = xs.length := by omega
        have hV := HV2.out.below hb
        have ⟨⟨zV, cV⟩, fV⟩ := hV
        have HV1 := Lib.hid hV
        have bw := b2.trans (hb.mono (by omega))
        clear hro hV
        go_wp2_with fail
        have hV2 := HV1.out.set (.slice (some ⟨g, 0, none⟩) D D)
        have b2 := bw.setCell (p := ⟨w.heap.size + 1, 0, none⟩) (by simp) (.slice (some ⟨g, 0, none⟩) D D)
        refine bodyPost_ret (v := .tuple #[.agg #[.slice (some ⟨g, 0, none⟩) D D], .bool true]) (by have ⟨⟨_, q1⟩, _⟩ := hV2; simp [results, Try.results25, go_sem, q1]) rfl ?_
        exact ⟨_, D, vl, by rw [H1.out, sqM_len], by rw [H1.out, sqM_len]; exact (HRO.out.setBelow (show w.heap.size + 1 < w2.heap.size by omega) _).mono (by omega), b2⟩

end Go.Proofs.Ytpenikceoogmgaa.ascentOfOrder
