/- A part of the proof of YtiodfmiielnngaaGreatTop: contracts of functions. -/
import Derived.Test.YtiodfmiielnngaaGreatRows
import Derived.WalkKit
import Derived.WalkSpells
import Derived.WalkLawsBesides
import Derived.Deep.QuietTactic
import Derived.BigQuiet
import Derived.ProofKit
import Derived.OpenShut
import Derived.ShutString
import Derived.ChangeOld
import Derived.Below
import Derived.Lib.SmallJoins
import Derived.Lib.Hide
import Derived.Shelf.Small.Bits
import Derived.Shelf.Small.Wraps
import Derived.Shelf.Strconv.Itoa0
import Derived.Shelf.Sort.Plain
import Derived.Shelf.Slices.Reverse
import Derived.Shelf.Slices.Equal
import Derived.Shelf.Slices.CompactI
import Derived.Shelf.Slices.SearchI
import Derived.Shelf.Slices.Delete
import Derived.Shelf.Slices.Cells
import Derived.Shelf.Slices.In.SortNone
import Derived.Shelf.Slices.Empties
import Derived.Shelf.Slices.Empties2
import Derived.Shelf.SlicesE.Reverse
import Derived.Shelf.SlicesE.Delete
import Derived.Sort.OwnSortedInts
import Derived.Lib.SliceRun
import Derived.Deep.RegionLaw
import Derived.Maps.AppendAt
import Derived.Deep.AppendLies
import Derived.Deep.RegionHeld3
import Derived.Lib.SlicesCompact
import Derived.Lib.RowBridge
import Derived.Shelf.Spec.SlicesInsertGrow
import Derived.Test.YtiodfmiielnngaaGreatTopP1
namespace Go.Proofs.YtiodfmiielnngaaGreat.top
open Go Go.RowKit
set_option linter.unusedVariables false
set_option linter.unusedSimpArgs false
set_option maxHeartbeats 400000
open Go.Shelf
/-- two ways to number the elements in the same order, without gaps, are one -/
theorem rank_le {N M K : Nat} {f g : Nat → Nat} (hf : ∀ v, v < M → ∃ j, j < N ∧ f j = v) (hfb : ∀ i, i < N → f i < M) (ho : ∀ i j, i < N → j < N → f i < f j → g i < g j) : ∀ v i, i < N → f i = v → f i ≤ g i := by
  intro v
  induction v with
  | zero => intro i _ e; omega
  | succ v ih =>
    intro i hi e
    obtain ⟨j, hj, e2⟩ := hf v (by have := hfb i hi; omega)
    have h1 := ih j hj e2
    have h2 := ho j i hj hi (by omega)
    omega
theorem rank_one {N M K : Nat} {f g : Nat → Nat} (hf : ∀ v, v < M → ∃ j, j < N ∧ f j = v) (hfb : ∀ i, i < N → f i < M) (hg : ∀ v, v < K → ∃ j, j < N ∧ g j = v) (hgb : ∀ i, i < N → g i < K) (ho : ∀ i j, i < N → j < N → (f i < f j ↔ g i < g j)) : M = K ∧ ∀ i, i < N → f i = g i := by
  have h1 : ∀ i, i < N → f i = g i := fun i hi => by
    have a := rank_le (K := K) hf hfb (fun i j hi hj h => (ho i j hi hj).1 h) (f i) i hi rfl
    have b := rank_le (K := M) hg hgb (fun i j hi hj h => (ho i j hi hj).2 h) (g i) i hi rfl
    omega
  refine ⟨?_, h1⟩
  have l1 : M ≤ K := by
    apply Classical.byContradiction
    intro hn
    obtain ⟨j, hj, e⟩ := hf K (by omega)
    have := hgb j hj
    have := h1 j hj
    omega
  have l2 : K ≤ M := by
    apply Classical.byContradiction
    intro hn
    obtain ⟨j, hj, e⟩ := hg M (by omega)
    have := hfb j hj
    have := h1 j hj
    omega
  omega
theorem two_no {xs : List Int} : (twoF xs).isSome = false ↔ ∀ a b c d : Nat, a < xs.length → b < xs.length → c < xs.length → d < xs.length → refB xs a b c d = false := by
  rw [show twoF xs = find1 (fun a => find1 (fun b => find1 (fun c => find1 (refF xs a b c) xs.length) xs.length) xs.length) xs.length from find1_congr (fun a _ => find1_congr (fun b _ => pairF_ref xs a b))]
  constructor
  · intro h a b c d ha hb hc hd
    cases e : refB xs a b c d
    · rfl
    · exfalso
      rw [Option.isSome_eq_false_iff, Option.isNone_iff_eq_none] at h
      have n1 : ∀ {α : Type} {f : Nat → Option α} {n : Nat}, find1 f n = none → ∀ k, k < n → f k = none := fun {α f n} h k hk => by
        rw [find1, List.findSome?_eq_none_iff] at h
        exact h k (by simpa using hk)
      have := n1 (n1 (n1 (n1 h a ha) b hb) c hc) d hd
      rw [refF, e] at this
      cases this
  · intro h
    rw [find1_none (fun a ha => find1_none (fun b hb => find1_none (fun c hc => find1_none (fun d hd => by rw [refF, h a b c d ha hb hc hd]; rfl))))]
    rfl
theorem isIv_mir {n : Int} {xs : List Int} (h : isIv n xs = true) : isIv n (belows xs xs.length) = true := by
  have hor := isIv_ord h
  have hr := (ordB_iff.1 hor).1
  have h2 : (twoF xs).isSome = false := by
    rw [isIv, hor] at h
    simpa using h
  rw [isIv, ord_mir hr, hor, (two_no (xs := belows xs xs.length)).2 (fun a b c d ha hb hc hd => ?_)]
  · rfl
  · rw [belows_len] at ha hb hc hd
    have := two_no.1 h2 b a d c hb ha hd hc
    rw [refB, mir_bit ha hb, mir_bit hc hd, mir_bit hc hb, mir_bit ha hd]
    rw [refB] at this
    rw [← this]
    cases hasB (nth xs b) a <;> cases hasB (nth xs d) c <;> cases hasB (nth xs d) a <;> cases hasB (nth xs b) c <;> rfl
/-- the levels stand as the lower sets do -/
theorem lv_less {n : Int} {xs : List Int} (h : isIv n xs = true) {i j : Nat} (hi : i < xs.length) (hj : j < xs.length) : lv xs i < lv xs j ↔ belowTo xs (i : Int) xs.length < belowTo xs (j : Int) xs.length := by
  have hp := ord_rel (isIv_ord h)
  obtain ⟨p, hp1, e1, e2⟩ := lv_place hp (isIv_two h) hi
  obtain ⟨q, hq1, e3, e4⟩ := lv_place hp (isIv_two h) hj
  have hinc : Inc (sets xs) := setsTo_inc xs xs.length
  rcases Nat.lt_trichotomy p q with hlt | rfl | hgt
  · have := inc_nth hinc hlt hq1; omega
  · omega
  · have := inc_nth hinc hgt hp1; omega
/-- of two lower sets the one of the lower level is a part of the other one -/
theorem lv_sub {n : Int} {xs : List Int} (h : isIv n xs = true) {i j : Nat} (hi : i < xs.length) (hj : j < xs.length) (hle : lv xs i ≤ lv xs j) {m : Nat} (hm : m < xs.length) (hb : hasB (nth xs m) (i : Int) = true) : hasB (nth xs m) (j : Int) = true := by
  have hp := ord_rel (isIv_ord h)
  obtain ⟨p, hp1, e1, e2⟩ := lv_place hp (isIv_two h) hi
  obtain ⟨q, hq1, e3, e4⟩ := lv_place hp (isIv_two h) hj
  by_cases e : p = q
  · subst e
    have e5 : belowTo xs (i : Int) xs.length = belowTo xs (j : Int) xs.length := by omega
    have h1 := belowTo_bit xs (i : Int) m xs.length
    have h2 := belowTo_bit xs (j : Int) m xs.length
    rw [e5, h2, hb] at h1
    simpa [hm] using h1
  · have hls := less_sets hp (isIv_two h) hp1 hq1
    rw [decide_eq_true (by omega), e1, e3] at hls
    simp only [lessB, Int.toNat_natCast, Bool.and_eq_true, beq_iff_eq] at hls
    have hb2 := sub_zero.1 hls.2 m (by rw [belowTo_bit, hb, decide_eq_true hm]; rfl)
    rw [belowTo_bit, Bool.and_eq_true] at hb2
    exact hb2.2
/-- the ends represent the order -/
theorem has_ends {n : Int} {xs : List Int} (h : isIv n xs = true) {i j : Nat} (hi : i < xs.length) (hj : j < xs.length) : hasB (nth xs i) (j : Int) = true ↔ rtE xs i < lv xs j := by
  have hor := isIv_ord h
  have hirr : hasB (nth xs i) i = false := (okAtB_iff.1 ((ordB_iff.1 hor).2 i hi)).1
  constructor
  · intro hb
    have hle := rtTo_le (st := 0) (xs := xs) (i := i) (B := lv xs j - 1) (by
      have h0 := (lv_bd xs i).1
      have : lv xs i < lv xs j := by
        apply Classical.byContradiction
        intro hn
        have := lv_sub h hj hi (by omega) hi hb
        rw [hirr] at this; cases this
      omega) xs.length (fun k hk hb2 => by
      apply Classical.byContradiction
      intro hn
      have := lv_sub h hj hk (by omega) hi hb
      rw [hb2] at this; cases this)
    unfold rtE
    omega
  · intro hlt
    cases hb : hasB (nth xs i) (j : Int)
    · have := rtTo_ge 0 xs i xs.length j hj hb
      unfold rtE at hlt
      omega
    · rfl
/-- an upper set is smaller the greater the right end is -/
theorem rt_less {n : Int} {xs : List Int} (h : isIv n xs = true) {i j : Nat} (hi : i < xs.length) (hj : j < xs.length) : rtE xs j < rtE xs i ↔ nth xs i < nth xs j := by
  have hp := ord_rel (isIv_ord h)
  have sub1 : ∀ {i j : Nat}, i < xs.length → j < xs.length → rtE xs j ≤ rtE xs i → (nth xs i).toNat ≤ (nth xs j).toNat := fun {i j} hi hj hle => by
    refine Nat.le_of_testBit (fun m hm => ?_)
    have hm2 : hasB (nth xs i) (m : Int) = true := by simpa [hasB] using hm
    have hml := has_lt hp hi hm2
    have := (has_ends h hj hml).2 (by have := (has_ends h hi hml).1 hm2; omega)
    simpa [hasB] using this
  have p1 := hp.pos i hi
  have p2 := hp.pos j hj
  constructor
  · intro hlt
    have h1 := sub1 hi hj (by omega)
    have ⟨r1, r2⟩ := ends_in h hi
    have h0 : 0 ≤ rtE xs j := rtTo_st 0 xs j xs.length
    obtain ⟨x, hx, e1, e2⟩ := lv_hit h (v := (rtE xs j).toNat + 1) (by omega)
    have hb1 := (has_ends h hj hx).2 (by omega)
    have hb2 : hasB (nth xs i) (x : Int) = false := by
      rw [← Bool.not_eq_true]
      intro hc
      have := (has_ends h hi hx).1 hc
      omega
    have hne : nth xs i ≠ nth xs j := fun e => by rw [e, hb1] at hb2; cases hb2
    omega
  · intro hlt
    apply Classical.byContradiction
    intro hn
    have := sub1 hj hi (by omega)
    omega
/-- the levels of the mirrored order are the right ends, seen from the other side -/
theorem mir_lv {n : Int} {xs : List Int} (h : isIv n xs = true) : (sets (belows xs xs.length)).length = (sets xs).length ∧ ∀ i, i < xs.length → lv (belows xs xs.length) i = ((sets xs).length : Int) - 1 - rtE xs i := by
  have hm := isIv_mir h
  have hr := (ordB_iff.1 (isIv_ord h)).1
  have hbl := belows_len xs xs.length
  have hmm : ∀ i, i < xs.length → ((belowTo (belows xs xs.length) (i : Int) (belows xs xs.length).length : Nat) : Int) = nth xs i := fun i hi => by
    rw [← nth_belows (xs := belows xs xs.length) (k := (belows xs xs.length).length) (by rw [hbl]; exact hi), mir_mir hr]
  have hb1 : ∀ i, i < xs.length → 0 ≤ lv (belows xs xs.length) i ∧ lv (belows xs xs.length) i < ((sets (belows xs xs.length)).length : Int) := fun i hi => by
    have := ends_in hm (k := i) (by rw [hbl]; exact hi)
    have := (lv_bd (belows xs xs.length) i).1
    omega
  have hb2 : ∀ i, i < xs.length → 0 ≤ rtE xs i ∧ rtE xs i < ((sets xs).length : Int) := fun i hi => by
    have := ends_in h hi
    have : 0 ≤ rtE xs i := rtTo_st 0 xs i xs.length
    omega
  obtain ⟨e1, e2⟩ := rank_one (N := xs.length) (M := (sets (belows xs xs.length)).length) (K := (sets xs).length) (f := fun i => (lv (belows xs xs.length) i).toNat) (g := fun i => (sets xs).length - 1 - (rtE xs i).toNat)
    (fun v hv => by
      obtain ⟨j, hj, _, e⟩ := lv_hit hm hv
      rw [hbl] at hj
      exact ⟨j, hj, by show (lv (belows xs xs.length) j).toNat = v; omega⟩)
    (fun i hi => by show (lv (belows xs xs.length) i).toNat < _; have := hb1 i hi; omega)
    (fun v hv => by
      obtain ⟨j, hj, e⟩ := rt_hit h (v := (sets xs).length - 1 - v) (by omega)
      exact ⟨j, hj, by show (sets xs).length - 1 - (rtE xs j).toNat = v; omega⟩)
    (fun i hi => by show (sets xs).length - 1 - (rtE xs i).toNat < _; have := hb2 i hi; omega)
    (fun i j hi hj => by
      show (lv (belows xs xs.length) i).toNat < (lv (belows xs xs.length) j).toNat ↔ (sets xs).length - 1 - (rtE xs i).toNat < (sets xs).length - 1 - (rtE xs j).toNat
      have h1 := lv_less hm (i := i) (j := j) (by rw [hbl]; exact hi) (by rw [hbl]; exact hj)
      have h2 := rt_less h hi hj
      have h3 := hmm i hi
      have h4 := hmm j hj
      have a1 := hb1 i hi
      have a2 := hb1 j hj
      have a3 := hb2 i hi
      have a4 := hb2 j hj
      constructor
      · intro hlt
        have := h2.2 (by have := h1.1 (by omega); omega)
        omega
      · intro hlt
        have := h1.2 (by have := h2.1 (by omega); omega)
        omega)
  refine ⟨e1, fun i hi => ?_⟩
  have e3 : (lv (belows xs xs.length) i).toNat = (sets xs).length - 1 - (rtE xs i).toNat := e2 i hi
  have a1 := hb1 i hi
  have a3 := hb2 i hi
  omega
/-- and the right ends are the levels -/
theorem mir_rt {n : Int} {xs : List Int} (h : isIv n xs = true) {i : Nat} (hi : i < xs.length) : rtE (belows xs xs.length) i = ((sets xs).length : Int) - 1 - lv xs i := by
  have hm := isIv_mir h
  have hr := (ordB_iff.1 (isIv_ord h)).1
  have h1 := mir_lv hm
  rw [mir_mir hr] at h1
  have h2 := h1.2 i (by rw [belows_len]; exact hi)
  have h3 := (mir_lv h).1
  omega

def mirVp (cs : List Int) (n : Nat) : List Int := prs (fun k => -rgt cs k) (fun k => -lft cs k) n
def mirVN (cs : List Int) (n : Nat) : Nat := if goodV cs n then n else 0
def mirVL (cs : List Int) (n : Nat) : List Int := if goodV cs n then mirVp cs n else []
theorem mirVN_le {cs : List Int} {n : Nat} : mirVN cs n ≤ 1048576 := by
  unfold mirVN
  split
  · rename_i h; have := (goodV_iff.1 h).1; omega
  · omega
theorem mirVL_len (cs : List Int) (n : Nat) : (mirVL cs n).length = mirVN cs n * 2 := by
  unfold mirVL mirVN
  split
  · exact prs_len _ _ _
  · rfl

/-- do intervals represent an order? -/
def drOk (cs : List Int) (n : Nat) (m : Int) (ys : List Int) : Bool := goodV cs n && ordB m ys
def drB (cs : List Int) (n : Nat) (m : Int) (ys : List Int) : Bool := drOk cs n m ys && eqL (ivo cs n n) ys

theorem ends_le {n : Int} {xs : List Int} (h : isIv n xs = true) {i : Nat} (hi : i < xs.length) : lv xs i ≤ rtE xs i := by
  rw [← rtE_own (isIv_ord h) hi]
  exact rtTo_st _ _ _ _
theorem ends_good {n : Int} {xs : List Int} (h : isIv n xs = true) : goodV (endp xs xs.length) xs.length = true := by
  have hp := ord_rel (isIv_ord h)
  have h10 : xs.length ≤ 10 := by have := hp.len; have := hp.n1; omega
  refine goodV_iff.2 ⟨h10, fun k hk => ?_⟩
  have h1 := ends_in h hk
  have h2 := ends_le h hk
  have h3 := sets_len xs
  rw [endp, prs_lft _ _ hk, prs_rgt _ _ hk]
  simp [wrongB]
  omega
/-- the ends, seen from the other side, represent the mirrored order -/
theorem mir_rep {n : Int} {xs : List Int} (h : isIv n xs = true) : ivo (prs (fun k => -rtE xs k) (fun k => -lv xs k) xs.length) xs.length xs.length = belows xs xs.length := by
  have hor := isIv_ord h
  have hr := (ordB_iff.1 hor).1
  have hm := rel_mir hr
  have hq := relB_p hm
  have hbl := belows_len xs xs.length
  refine nths_eq (by rw [ivo_len, hbl]) (fun k hk => ?_)
  rw [ivo_len] at hk
  rw [show nth (ivo (prs (fun k => -rtE xs k) (fun k => -lv xs k) xs.length) xs.length xs.length) k = ivE (prs (fun k => -rtE xs k) (fun k => -lv xs k) xs.length) xs.length k from fmap_nth _ hk, ivE, prs_rgt _ _ hk]
  have hlt := befTo_lt (prs (fun k => -rtE xs k) (fun k => -lv xs k) xs.length) (-lv xs k) xs.length
  have e2 : ((2 ^ xs.length : Nat) : Int) = (2 : Int) ^ xs.length := by simp
  refine bits_eq (n := xs.length) (by omega) (by omega) (hq.pos k (by rw [hbl]; exact hk)) (by have := hq.lt k (by rw [hbl]; exact hk); rwa [hbl] at this) (fun j hj => ?_)
  rw [mir_bit hk hj, hasB, Int.toNat_natCast, Int.toNat_natCast, befTo_bit, prs_lft _ _ hj, decide_eq_true hj, Bool.true_and]
  rw [Bool.eq_iff_iff, decide_eq_true_eq, has_ends h hj hk]
  omega

/-- the ends represent their order -/
theorem ends_rep {n : Int} {xs : List Int} (h : isIv n xs = true) : ivo (endp xs xs.length) xs.length xs.length = xs := by
  have hr := (ordB_iff.1 (isIv_ord h)).1
  have hp := relB_p hr
  refine nths_eq (by rw [ivo_len]) (fun k hk => ?_)
  rw [ivo_len] at hk
  rw [show nth (ivo (endp xs xs.length) xs.length xs.length) k = ivE (endp xs xs.length) xs.length k from fmap_nth _ hk, ivE, endp, prs_rgt _ _ hk]
  have hlt := befTo_lt (prs (lv xs) (rtE xs) xs.length) (rtE xs k) xs.length
  have e2 : ((2 ^ xs.length : Nat) : Int) = (2 : Int) ^ xs.length := by simp
  refine bits_eq (n := xs.length) (by omega) (by omega) (hp.pos k hk) (hp.lt k hk) (fun j hj => ?_)
  rw [hasB, Int.toNat_natCast, Int.toNat_natCast, befTo_bit, prs_lft _ _ hj, decide_eq_true hj, Bool.true_and]
  rw [Bool.eq_iff_iff, decide_eq_true_eq, has_ends h hk hj]
/-- other intervals that represent the order do not end before its ends do -/
theorem ends_least {n : Int} {xs : List Int} (h : isIv n xs = true) {L R : Nat → Int} {low : Int} (hrep : ∀ i j : Nat, i < xs.length → j < xs.length → (hasB (nth xs i) (j : Int) = true ↔ R i < L j)) (hlow : ∀ i, i < xs.length → low ≤ L i) : ∀ i, i < xs.length → lv xs i ≤ L i - low ∧ rtE xs i ≤ R i - low := by
  have hl : ∀ (v i : Nat), i < xs.length → lv xs i = (v : Int) → low + v ≤ L i := by
    intro v
    induction v with
    | zero => intro i hi _; have := hlow i hi; omega
    | succ v ih =>
      intro i hi e
      have he := ends_in h hi
      obtain ⟨x, hx, ex⟩ := rt_hit h (v := v) (by omega)
      obtain ⟨y, hy, _, ey⟩ := lv_hit h (v := v) (by omega)
      have h1 := (hrep x i hx hi).1 ((has_ends h hx hi).2 (by omega))
      have h2 : ¬ R x < L y := fun hc => by
        have := (has_ends h hx hy).1 ((hrep x y hx hy).2 hc)
        omega
      have := ih y hy ey
      omega
  intro i hi
  have he := ends_in h hi
  have h1 := hl (lv xs i).toNat i hi (by omega)
  refine ⟨by omega, ?_⟩
  obtain ⟨y, hy, _, ey⟩ := lv_hit h (v := (rtE xs i).toNat) (by omega)
  have h2 : ¬ R i < L y := fun hc => by
    have := (has_ends h hi hy).1 ((hrep i y hi hy).2 hc)
    omega
  have h3 := hl _ y hy ey
  omega

theorem ivo_nth (cs : List Int) {n k i : Nat} (h : i < k) : nth (ivo cs n k) i = ivE cs n i := fmap_nth _ h
theorem ivo_has {cs : List Int} {n i j : Nat} (hi : i < n) : hasB (nth (ivo cs n n) i) (j : Int) = (decide (j < n) && decide (rgt cs i < lft cs j)) := by
  rw [ivo_nth cs hi, ivE, hasB, Int.toNat_natCast, Int.toNat_natCast, befTo_bit]
/-- intervals represent an interval order -/
theorem ivo_ord {cs : List Int} {n : Nat} (hg : goodV cs n = true) : ordB (n : Int) (ivo cs n n) = true := by
  have ⟨hn, hb⟩ := goodV_iff.1 hg
  have hl := ivo_len cs n n
  rw [ordB_iff]
  refine ⟨?_, fun k hk => ?_⟩
  · have hall : allB (ivo cs n n) 0 (2 ^ (n : Int).toNat - 1) = true := by
      simp only [allB, List.all_eq_true]
      intro x hx
      obtain ⟨i, hi, rfl⟩ := List.getElem_of_mem hx
      rw [hl] at hi
      rw [← nth_get _ _ (by rw [hl]; exact hi), ivo_nth cs hi, inB_iff, ivE, Int.toNat_natCast]
      have h1 := befTo_lt cs (rgt cs i) n
      have h2 : ((2 ^ n : Nat) : Int) = (2 : Int) ^ n := by simp
      omega
    simp only [relB, hall, hl]
    simp [inB]; omega
  · rw [hl] at hk
    rw [okAtB_iff]
    constructor
    · rw [ivo_has hk]
      have := wrongB_no.1 (hb k hk)
      simp; omega
    · intro j hj hkj
      rw [hl] at hj
      rw [ivo_has hk] at hkj
      simp only [Bool.and_eq_true, decide_eq_true_eq] at hkj
      rw [sub_zero]
      intro b hbit
      have e1 : (nth (ivo cs n n) j).toNat.testBit b = hasB (nth (ivo cs n n) j) (b : Int) := rfl
      have e2 : (nth (ivo cs n n) k).toNat.testBit b = hasB (nth (ivo cs n n) k) (b : Int) := rfl
      rw [e1, ivo_has hj] at hbit
      rw [e2, ivo_has hk]
      simp only [Bool.and_eq_true, decide_eq_true_eq] at hbit ⊢
      have := wrongB_no.1 (hb j hj)
      exact ⟨hbit.1, by omega⟩
theorem ivo_two {cs : List Int} {n : Nat} (hg : goodV cs n = true) : twoF (ivo cs n n) = none := by
  have ⟨hn, hb⟩ := goodV_iff.1 hg
  have hl := ivo_len cs n n
  refine find1_none (fun a ha => find1_none (fun b hbl => ?_))
  rw [pairF_ref]
  refine find1_none (fun c hc => find1_none (fun d hd => ?_))
  rw [hl] at ha hbl hc hd
  rw [refF, if_neg]
  simp only [refB, ivo_has ha, ivo_has hc, Bool.and_eq_true, decide_eq_true_eq, Bool.not_eq_true', Bool.and_eq_false_iff, decide_eq_false_iff_not]
  rintro ⟨⟨⟨h1, h2⟩, h3⟩, h4⟩
  have h5 := h3.resolve_left (fun h => h hbl)
  have h6 := h4.resolve_left (fun h => h hd)
  have := wrongB_no.1 (hb a ha)
  have := wrongB_no.1 (hb b hbl)
  have := wrongB_no.1 (hb c hc)
  have := wrongB_no.1 (hb d hd)
  omega
theorem ivo_is {cs : List Int} {n : Nat} (hg : goodV cs n = true) : isIv (n : Int) (ivo cs n n) = true := by
  simp [isIv, ivo_ord hg, ivo_two hg]
def leastB (cs : List Int) (n : Nat) : Bool := goodV cs n && eqL cs (endp (ivo cs n n) n)

/-- the first of k places where a number is not 0, or k -/
def firstNZ (f : Nat → Int) : Nat → Nat
  | 0 => 0
  | k+1 => if firstNZ f k < k then firstNZ f k else if f k = 0 then k + 1 else k
theorem firstNZ_le (f : Nat → Int) : ∀ k, firstNZ f k ≤ k
  | 0 => Nat.le_refl _
  | k+1 => by rw [firstNZ]; split; (· omega); (· split <;> omega)
theorem firstNZ_all {f : Nat → Int} : ∀ {k : Nat}, (∀ j, j < k → f j = 0) → firstNZ f k = k
  | 0, _ => rfl
  | k+1, h => by
    have h1 := firstNZ_all (f := f) (k := k) (fun j hj => h j (by omega))
    rw [firstNZ, if_neg (by omega), if_pos (h k (by omega))]
theorem firstNZ_at {f : Nat → Int} {k : Nat} (h : ∀ j, j < k → f j = 0) (hk : f k ≠ 0) : ∀ {n : Nat}, k < n → firstNZ f n = k
  | 0, hn => by omega
  | n+1, hn => by
    by_cases e : k = n
    · subst e
      rw [firstNZ, if_neg (by have := firstNZ_all h; omega), if_neg hk]
    · rw [firstNZ, firstNZ_at h hk (by omega), if_pos (by omega)]
theorem firstNZ_zero {f : Nat → Int} : ∀ {n j : Nat}, j < firstNZ f n → f j = 0
  | 0, j, h => by simp [firstNZ] at h
  | n+1, j, h => by
    rw [firstNZ] at h
    split at h
    · exact firstNZ_zero h
    · rename_i h1
      have h2 := firstNZ_le f n
      split at h
      · rename_i h3
        by_cases e : j = n
        · rw [e]; exact h3
        · exact firstNZ_zero (n := n) (by omega)
      · exact firstNZ_zero (n := n) (by omega)
theorem firstNZ_ne {f : Nat → Int} : ∀ {n : Nat}, firstNZ f n < n → f (firstNZ f n) ≠ 0
  | 0, h => by omega
  | n+1, h => by
    by_cases h1 : firstNZ f n < n
    · have e : firstNZ f (n+1) = firstNZ f n := by rw [firstNZ, if_pos h1]
      rw [e]; exact firstNZ_ne h1
    · by_cases h2 : f n = 0
      · have e : firstNZ f (n+1) = n + 1 := by rw [firstNZ, if_neg h1, if_pos h2]
        omega
      · have e : firstNZ f (n+1) = n := by rw [firstNZ, if_neg h1, if_neg h2]
        rw [e]; exact h2
/-- the least row whose number in the last column is not 0 -/
def topN (xss : List (List Int)) : Nat := firstNZ (fun i => atM xss i (xss.length - 1)) xss.length
theorem topN_lt {xss : List (List Int)} (h : mxB xss = true) (hn : 0 < xss.length) : topN xss < xss.length := by
  have h1 := firstNZ_le (fun i => atM xss i (xss.length - 1)) xss.length
  rcases Nat.lt_or_eq_of_le h1 with h2 | h2
  · exact h2
  · exfalso
    have h3 : ∀ i, i < xss.length → atM xss i (xss.length - 1) = 0 := fun i hi => firstNZ_zero (f := fun i => atM xss i (xss.length - 1)) (n := xss.length) (by omega)
    have h4 := (adB_iff.1 (mxB_iff.1 h).2.2).1 (xss.length - 1) (by rw [colsL_len]; omega)
    rw [colsL_row (by omega)] at h4
    have h5 : totR (colL xss (xss.length - 1)) = 0 := by
      rw [totR]
      exact totI_zero (fun j hj => by rw [colL_len] at hj; rw [colL_nth _ hj]; exact h3 j hj)
    omega
theorem topN_zero {xss : List (List Int)} {j : Nat} (h : j < topN xss) : atM xss j (xss.length - 1) = 0 := firstNZ_zero (f := fun i => atM xss i (xss.length - 1)) h
theorem topN_ne {xss : List (List Int)} (h : mxB xss = true) (hn : 0 < xss.length) : atM xss (topN xss) (xss.length - 1) ≠ 0 := firstNZ_ne (f := fun i => atM xss i (xss.length - 1)) (topN_lt h hn)
def topB (xss : List (List Int)) : Bool := mxB xss && decide (xss.length ≠ 0)
def topV (xss : List (List Int)) : Int := if topB xss then ((topN xss : Nat) : Int) else 0
def topI (xss : List (List Int)) : Int := if xss.length = 0 then -1 else ((topN xss : Nat) : Int)

/-- the first k of n rows, and rows of nil behind them -/
def nTo (xss : List (List Int)) (n k : Nat) : List (List Int) := (List.range n).map fun i => if i < k then rowL xss i else []
def nVal (vl : List Value) (n k : Nat) : List Value := (List.range n).map fun i => if i < k then valAt vl i else .slice none 0 0
theorem nVal_len (vl : List Value) (n k : Nat) : (nVal vl n k).length = n := by simp [nVal]
theorem nVal_at {vl : List Value} {n k i : Nat} (h : i < n) : valAt (nVal vl n k) i = if i < k then valAt vl i else .slice none 0 0 := by simp [valAt, nVal, List.getD_eq_getElem?_getD, h]
theorem nVal_zero (vl : List Value) (n : Nat) : nVal vl n 0 = List.replicate n (.slice none 0 0) := by
  apply List.ext_getElem?
  intro i
  by_cases h : i < n <;> simp [nVal, h]
theorem nVal_step {vl : List Value} {n k : Nat} (h : k < n) : (nVal vl n k).set k (valAt vl k) = nVal vl n (k+1) := by
  apply List.ext_getElem?
  intro i
  rw [List.getElem?_set]
  by_cases e : k = i
  · subst e
    rw [if_pos rfl, if_pos (by rw [nVal_len]; exact h), valAt_get (by rw [nVal_len]; exact h), nVal_at h, if_pos (by omega)]
  · rw [if_neg e]
    by_cases hi : i < n
    · rw [valAt_get (by rw [nVal_len]; exact hi), valAt_get (by rw [nVal_len]; exact hi), nVal_at hi, nVal_at hi]
      by_cases h2 : i < k
      · rw [if_pos h2, if_pos (by omega)]
      · rw [if_neg h2, if_neg (by omega)]
    · rw [List.getElem?_eq_none (by rw [nVal_len]; omega), List.getElem?_eq_none (by rw [nVal_len]; omega)]
theorem nVal_end {vl : List Value} {n : Nat} (h : vl.length = n) : nVal vl n n = vl := by
  apply List.ext_getElem?
  intro i
  by_cases hi : i < n
  · rw [valAt_get (by rw [nVal_len]; exact hi), valAt_get (by omega), nVal_at hi, if_pos hi]
  · rw [List.getElem?_eq_none (by rw [nVal_len]; omega), List.getElem?_eq_none (by omega)]

theorem infoIntS : (Tryz.prog.info? 24).map (fun i => (i.zero, i.size, i.bytes)) = some (some (.slice none 0 0), 1, 24) := by kernel_rfl
theorem sset_step (vl : List Value) (n k : Nat) (v z : Value) (hk : vl.length = k) (h : k < n) :
    (vl ++ List.replicate (n - k) z).set k v = (vl ++ [v]) ++ List.replicate (n - (k+1)) z := by
  rw [List.set_append_right _ _ (by omega), hk, Nat.sub_self, List.append_assoc]
  congr 1
  rw [show n - k = (n - (k+1)) + 1 by omega, List.replicate_succ, List.set_cons_zero]
  rfl
theorem valAt_app {vl : List Value} {v : Value} {k : Nat} (h : k < vl.length) : valAt (vl ++ [v]) k = valAt vl k := by
  simp [valAt, List.getElem?_append, h]
theorem valAt_last (vl : List Value) (v : Value) : valAt (vl ++ [v]) vl.length = v := by
  simp [valAt]

/-- a row of m integers of which the first k are filled, f 0 .. -/
def rowF (f : Nat → Int) (m k : Nat) : List Int := fmap f k ++ List.replicate (m - k) 0
theorem rowF_len (f : Nat → Int) {m k : Nat} (h : k ≤ m) : (rowF f m k).length = m := by simp [rowF, fmap_len]; omega
theorem rowF_set (f : Nat → Int) {m k : Nat} (h : k < m) : (rowF f m k).set k (f k) = rowF f m (k+1) := by
  apply List.ext_getElem?
  intro j
  rw [List.getElem?_set]
  by_cases hj : k = j
  · subst hj
    rw [if_pos rfl, if_pos (by rw [rowF_len f (by omega)]; exact h), rowF, List.getElem?_append_left (by rw [fmap_len]; omega)]
    simp [fmap]
  · simp only [hj, if_false, rowF, List.getElem?_append, fmap_len, List.getElem?_replicate]
    by_cases h1 : j < k
    · have h2 : j < k + 1 := by omega
      simp [h1, h2, fmap]
    · have h2 : ¬ j < k + 1 := by omega
      have h3 : j - k < m - k ↔ j - (k+1) < m - (k+1) := by omega
      simp [h1, h2, h3]
theorem rowF_zero (f : Nat → Int) {m k : Nat} (h : k < m) : (rowF f m k).set k 0 = rowF f m k := by
  apply List.ext_getElem?
  intro j
  rw [List.getElem?_set]
  by_cases hj : k = j
  · subst hj
    rw [if_pos rfl, if_pos (by rw [rowF_len f (by omega)]; exact h), rowF, List.getElem?_append_right (by rw [fmap_len]; omega)]
    rw [fmap_len, Nat.sub_self, List.getElem?_replicate, if_pos (by omega)]
  · simp [hj]
theorem rowF_end (f : Nat → Int) (m : Nat) : rowF f m m = fmap f m := by simp [rowF]
theorem made_row {w1 : World} {B : Nat} {v : Value} {m : Nat} (f : Nat → Int) (h : w1.ownsRow B 3 1 v m (madeCells (Value.int .i64 0).cells (m * 1)).toList) : OwnI w1 B v (rowF f m 0) := by
  unfold OwnI
  rw [rowF_len f (Nat.zero_le _)]
  simpa [Value.cells, toList_madeCells_one, fmap, rowF] using h

theorem below_grown_none {w w' : World} {B : Nat} (h : w.grownBy w' none) (hB : B ≤ w.heap.size) : Below B w w' :=
  below_of_grown (v := .slice none 0 0) h (fun b e => by simp [Value.ownBlock] at e) hB

/-- a new row has been put into rows that have been made -/
theorem RowsP.putRow {w : World} {B : Nat} {v u : Value} {vl : List Value} {xss : List (List Int)} {r : List Int} (h : RowsP w B v vl xss) {k : Nat} (hk : k < xss.length) (hu : OwnI w B u r) (hne : ∀ c, u.ownBlock = some c → v.ownBlock ≠ some c ∧ ∀ j, j < xss.length → j ≠ k → (valAt vl j).ownBlock ≠ some c) :
    ∃ g c, v = .slice (some ⟨g, 0, none⟩) xss.length c ∧ B ≤ g ∧ g < w.heap.size ∧ (∃ z, w.cell? ⟨g, k, none⟩ = some z) ∧ w.frozen? ⟨g, k, none⟩ = false ∧ RowsP (w.setCell ⟨g, k, none⟩ u) B v (vl.set k u) (xss.set k r) := by
  have hl := h.o.vlen
  rcases h.o.own.2 with ⟨e, h0⟩ | ⟨g, cap3, cur, e, hb, hg, _⟩
  · omega
  · subst e
    have h1 := World.ownsRow.cellAt h.o.own k (by omega)
    have hgr := grown_set w ⟨g, k, none⟩ u
    have hval : ∀ j, valAt (vl.set k u) j = if j = k then u else valAt vl j := by
      intro j
      simp only [valAt, List.getD_eq_getElem?_getD, List.getElem?_set]
      by_cases e : k = j
      · subst e; simp [show k < vl.length by omega]
      · simp [e, Ne.symm e]
    have hrow : ∀ j, j < xss.length → rowL (xss.set k r) j = if j = k then r else rowL xss j := by
      intro j hj
      simp only [rowL, List.getD_eq_getElem?_getD, List.getElem?_set]
      by_cases e : k = j
      · subst e; simp [hk]
      · simp [e, Ne.symm e]
    refine ⟨g, cap3, rfl, hb, (Array.getElem?_eq_some_iff.1 hg).1, ⟨_, by rw [h1, valAt_get (by omega)]⟩, World.ownsRow.frozenAt h.o.own k, ⟨⟨?_, fun j hj => ?_, fun j hj c hc => ?_⟩, fun i j hij hj c hc => ?_⟩⟩
    · rw [List.length_set]
      exact (World.ownsRow.stored h.o.own k u).1
    · rw [List.length_set] at hj
      rw [hval, hrow j hj]
      by_cases e : j = k
      · rw [if_pos e, if_pos e]
        exact hu.kept hgr (own_nb (fun c h1 h2 => (hne c h1).1 (by rw [h2]; rfl)))
      · rw [if_neg e, if_neg e]
        exact (h.o.row j hj).kept hgr (own_nb (fun c h1 h2 => h.o.apart j hj c h1 (by rw [h2]; rfl)))
    · rw [List.length_set] at hj
      rw [hval] at hc
      by_cases e : j = k
      · rw [if_pos e] at hc; exact (hne c hc).1
      · rw [if_neg e] at hc; exact h.o.apart j hj c hc
    · rw [List.length_set] at hj
      rw [hval] at hc ⊢
      by_cases e : j = k
      · rw [if_pos e]
        rw [if_neg (by omega)] at hc
        intro h2
        exact (hne c h2).2 i (by omega) (by omega) hc
      · rw [if_neg e]
        by_cases e2 : i = k
        · rw [if_pos e2] at hc
          exact (hne c hc).2 j hj e
        · rw [if_neg e2] at hc
          exact h.pair i j hij hj c hc
theorem infoRow0 : (Tryz.prog.info? 24).map (fun i => (i.zero, i.size, i.bytes)) = some (some (.slice none 0 0), 1, 24) := by kernel_rfl
/-- the rows of nil that a make has made -/
theorem RowsP.made {w : World} {B n : Nat} {g : Nat} (h : w.ownsRow B 24 1 (.slice (some ⟨g, 0, none⟩) n n) n (List.replicate n (.slice none 0 0))) : RowsP w B (.slice (some ⟨g, 0, none⟩) n n) (List.replicate n (.slice none 0 0)) (List.replicate n []) := by
  have hv : ∀ k, k < n → valAt (List.replicate n (.slice none 0 0)) k = .slice none 0 0 := fun k hk => by simp [valAt, List.getD_eq_getElem?_getD, hk]
  refine ⟨⟨by rw [List.length_replicate]; exact h, fun k hk => ?_, fun k hk c hc => ?_⟩, fun j k hjk hk c hc => ?_⟩
  · rw [List.length_replicate] at hk
    rw [hv k hk]
    have : rowL (List.replicate n []) k = [] := by simp [rowL, hk]
    rw [this]
    exact OwnI.nil _ _
  · rw [List.length_replicate] at hk
    rw [hv k hk] at hc
    cases hc
  · rw [List.length_replicate] at hk
    rw [hv j (by omega)] at hc
    cases hc
/-- k rows of zeros, and rows of nil behind them -/
def zTo (n k : Nat) : List (List Int) := (List.range n).map fun i => if i < k then List.replicate n 0 else []
theorem zTo_len (n k : Nat) : (zTo n k).length = n := by simp [zTo]
theorem zTo_row {n k i : Nat} (h : i < n) : rowL (zTo n k) i = if i < k then List.replicate n 0 else [] := by simp [zTo, rowL, h]
theorem zTo_zero (n : Nat) : zTo n 0 = List.replicate n [] := by
  refine rows_ext (by simp [zTo]) (fun i hi => ?_)
  rw [zTo_len] at hi
  rw [zTo_row hi]
  simp [rowL, hi]
theorem zTo_end (n : Nat) : zTo n n = sqM (fun _ _ => 0) n n := by
  refine rows_ext (by rw [zTo_len, sqM_len]) (fun i hi => ?_)
  rw [zTo_len] at hi
  rw [zTo_row hi, sqM_row hi, if_pos hi]
  apply List.ext_getElem?
  intro j
  by_cases h : j < n <;> simp [fmap, h]
theorem zTo_step {n k : Nat} (h : k < n) : (zTo n k).set k (List.replicate n 0) = zTo n (k+1) := by
  refine rows_ext (by simp [zTo]) (fun i hi => ?_)
  rw [List.length_set, zTo_len] at hi
  rw [zTo_row hi]
  have : rowL ((zTo n k).set k (List.replicate n 0)) i = if i = k then List.replicate n 0 else rowL (zTo n k) i := by
    simp only [rowL, List.getD_eq_getElem?_getD, List.getElem?_set]
    by_cases e : k = i
    · subst e; simp [zTo_len, h]
    · simp [e, Ne.symm e]
  rw [this, zTo_row hi]
  by_cases e : i = k
  · rw [if_pos e, if_pos (by omega)]
  · rw [if_neg e]
    by_cases e2 : i < k
    · rw [if_pos e2, if_pos (by omega)]
    · rw [if_neg e2, if_neg (by omega)]
set_option maxRecDepth 100000 in
theorem zeroRows_any (n : Nat) (w : World) (hn : n ≤ 12) :
    Calls Tryz.prog 52 #[.int .i64 (n : Int)] w fun e w' => ∃ g vl, e = .returned (.slice (some ⟨g, 0, none⟩) n n) ∧ RowsP w' w.heap.size (.slice (some ⟨g, 0, none⟩) n n) vl (sqM (fun _ _ => 0) n n) ∧ Below w.heap.size w w' := by
  obtain ⟨i0, hi, hz0, hz1, hz2⟩ := info_parts infoInt
  obtain ⟨j0, hj0, hy0, hy1, hy2⟩ := info_parts infoRow0
  go_enter Tryz.func52, Tryz.ntmps52
  go_wp2_with (at_make; refine wpList_make_full _ rfl (.tmp 5) (.tmp 5) 43 rfl w.heap.size 24 j0 (.slice none 0 0) 1 Tryz.underlying43 hj0 hy0 hy1 .i64 .i64 _ _ n rfl rfl rfl rfl (by rw [hy2]; omega) (by unfold maxLen; omega) (Nat.le_refl _) ?_; intro w1 hown hgrow)
  have hb0 : Below w.heap.size w w1 := (Below.refl _ _).grown hgrow (Nat.le_refl _) (fun k h => by cases h)
  have hro : RowsP w1 w.heap.size (.slice (some ⟨w.heap.size, 0, none⟩) n n) (List.replicate n (.slice none 0 0)) (zTo n 0) := by
    rw [zTo_zero]
    exact RowsP.made (by simpa [Value.cells, toList_madeCells_one] using hown)
  clear hown hgrow
  obtain ⟨G, hG⟩ : ∃ G, G = w.heap.size := ⟨_, rfl⟩
  have HG := Lib.hid hG
  rw [← hG] at hro ⊢
  have hGG : w.heap.size ≤ G := by omega
  have hb0' : Below w.heap.size w w1 := hb0
  clear hG hb0
  have HRO := Lib.hid hro
  have hzs := (by have := hb0'.size; omega : w.heap.size ≤ w1.heap.size)
  clear hro
  go_wp2_with fail
  go_loopw [9] (fun i wr => ∃ (k : Nat) (vl : List Value), k ≤ n ∧ i = .int .i64 k ∧ RowsP wr w.heap.size (.slice (some ⟨G, 0, none⟩) n n) vl (zTo n k) ∧ Below w.heap.size w wr) (fun i _ => n - (intOf i).toNat)
  case atStart => exact ⟨0, _, Nat.zero_le _, rfl, by rw [← HG.out]; exact HRO.out, hb0'⟩
  case round =>
    obtain ⟨k, vl, hk, rfl, hro, hb⟩ := hrel
    have hbs := hb.size
    have HR := Lib.hid hro
    by_cases hlt : k < n
    · obtain ⟨W1, hW1⟩ : ∃ x : World, x = wr := ⟨_, rfl⟩
      subst hW1
      have k1 : (k : Int) < (n : Int) := by omega
      clear hro
      go_wp2_with (
        at_make
        refine wpList_make_full _ rfl (.tmp 14) (.tmp 14) 24 rfl W1.heap.size 3 i0 (.int .i64 0) 1 Tryz.underlying24 hi hz0 hz1 .i64 .i64 _ _ n rfl rfl rfl rfl (by rw [hz2]; omega) (by unfold maxLen; omega) (Nat.le_refl _) ?_
        intro w2 hown2 hgrow2
        have b2 : Below W1.heap.size W1 w2 := (Below.refl _ _).grown hgrow2 (Nat.le_refl _) (fun k h => by cases h)
        have o2 : OwnI w2 W1.heap.size (.slice (some ⟨W1.heap.size, 0, none⟩) n n) (List.replicate n 0) := by
          have h := made_row (fun _ => 0) hown2
          simpa [rowF, fmap] using h
        have hro2 := HR.out.below b2 (Nat.le_refl _)
        have hbk := HR.out.blk
        obtain ⟨g9, c9, e9, hg1, hg2, ⟨z9, hz9⟩, hf9, hnew⟩ := hro2.putRow (k := k) (r := List.replicate n 0) (by rw [zTo_len]; exact hlt) (o2.mono hbs) (fun c hc => by
          simp only [Value.ownBlock, Option.some.injEq] at hc
          subst hc
          exact ⟨fun h => by have := hbk.1 _ h; omega, fun j hj hne h => by have := hbk.2 j hj _ h; omega⟩)
        simp only [Value.slice.injEq, Option.some.injEq, Addr.mk.injEq, and_true] at e9
        obtain ⟨rfl, -, -⟩ := e9
        rw [zTo_step hlt] at hnew
        have HN := Lib.hid hnew
        have bw2 := hb.trans (b2.mono hbs)
        have bw3 := bw2.setCell (p := ⟨G, k, none⟩) hg1 (.slice (some ⟨W1.heap.size, 0, none⟩) n n)
        clear hown2 hgrow2 hnew o2 hro2 hbk)
      go_roundw
      case rel => exact ⟨k + 1, _, by omega, by go_num, HN.out, bw3⟩
      case measure => simp [intOf]; omega
    · obtain rfl : k = n := by omega
      rw [zTo_end] at HR
      clear hro
      go_wp2_with fail
      go_ret
      exact ⟨G, vl, rfl, HR.out, hb⟩

/-- in the first k rows the column x and the last one exchanged -/
def swF (f : Nat → Nat → Int) (d x k : Nat) (a b : Nat) : Int := if a < k then (if b = d - 1 then f a x else if b = x then f a (d - 1) else f a b) else f a b
theorem swF_step {f : Nat → Nat → Int} {d x k : Nat} {n : Nat} (hk : k < n) (hx : x < d) : setM (setM (sqM (swF f d x k) n d) k x (f k (d-1))) k (d-1) (f k x) = sqM (swF f d x (k+1)) n d := by
  rw [setM_sq hk hx, setM_sq hk (by omega)]
  refine sqM_congr (fun a ha b hb => ?_)
  rw [swF, swF]
  by_cases h1 : a = k
  · subst h1
    rw [if_pos (show a < a + 1 by omega)]
    by_cases h2 : b = d - 1
    · rw [if_pos ⟨rfl, h2⟩, if_pos h2]
    · rw [if_neg (fun h => h2 h.2), if_neg h2]
      by_cases h3 : b = x
      · rw [if_pos ⟨rfl, h3⟩, if_pos h3]
      · rw [if_neg (fun h => h3 h.2), if_neg h3, if_neg (by omega)]
  · rw [if_neg (fun h => h1 h.1), if_neg (fun h => h1 h.1)]
    by_cases h4 : a < k
    · rw [if_pos h4, if_pos (show a < k + 1 by omega)]
    · rw [if_neg h4, if_neg (show ¬ a < k + 1 by omega)]
theorem swF_zero {f : Nat → Nat → Int} {d x n m : Nat} : sqM (swF f d x 0) n m = sqM f n m := sqM_congr (fun a ha b hb => by rw [swF, if_neg (by omega)])

set_option maxRecDepth 100000 in
set_option maxHeartbeats 1000000 in
theorem swapLast_any (g c c2 B n d x m : Nat) (vl : List Value) (f : Nat → Nat → Int) (w : World) (h : RowsP w B (.slice (some ⟨g, 0, none⟩) n c) vl (sqM f n d)) (hm : m ≤ n) (hx : x < d) (hd : d ≤ 13) (hB : B ≤ w.heap.size) (hn : n ≤ 13) :
    Calls Tryz.prog 111 #[.slice (some ⟨g, 0, none⟩) m c2, .int .i64 (x : Int)] w fun e w' => e = .returned (.tuple #[]) ∧ RowsP w' B (.slice (some ⟨g, 0, none⟩) n c) vl (sqM (swF f d x m) n d) ∧ Below B w w' := by
  have H := Lib.hid h
  clear h
  go_enter Tryz.func111, Tryz.ntmps111
  go_wp2_with fail
  go_loopw [9] (fun i wr => ∃ k : Nat, k ≤ m ∧ i = .int .i64 k ∧ RowsP wr B (.slice (some ⟨g, 0, none⟩) n c) vl (sqM (swF f d x k) n d) ∧ Below B w wr) (fun i _ => m - (intOf i).toNat)
  case atStart => exact ⟨0, Nat.zero_le _, rfl, by rw [swF_zero]; exact H.out, Below.refl _ _⟩
  case round =>
    obtain ⟨k, hk, rfl, hro, hb⟩ := hrel
    have hbs := hb.size
    by_cases hlt : k < m
    · have k1 : (k : Int) < (m : Int) := by omega
      have hkn : k < n := by omega
      obtain ⟨g4, e4, hg4, hg5, hc4, hf4⟩ := hro.outer (k := k) (by rw [sqM_len]; exact hkn)
      simp only [Option.some.injEq, Addr.mk.injEq, and_true] at e4
      subst e4
      obtain ⟨g6, c6, e6, hg6, hg7, hc6, hf6, hnew⟩ := hro.num (i := k) (j := x) (by rw [sqM_len]; exact hkn) (by rw [sqM_rlen hkn]; exact hx)
      obtain ⟨g8, c8, e8, hg8, hg9, hc8, hf8, _⟩ := hro.num (i := k) (j := d - 1) (by rw [sqM_len]; exact hkn) (by rw [sqM_rlen hkn]; omega)
      rw [e6] at e8
      simp only [Value.slice.injEq, Option.some.injEq, Addr.mk.injEq, and_true] at e8
      obtain ⟨rfl, -, -⟩ := e8
      rw [e6, sqM_rlen hkn] at hc4
      rw [sqM_at hkn hx, show swF f d x k k x = f k x by rw [swF, if_neg (by omega)]] at hc6
      rw [sqM_at hkn (by omega), show swF f d x k k (d - 1) = f k (d - 1) by rw [swF, if_neg (by omega)]] at hc8
      have h1 := hnew (f k (d - 1))
      obtain ⟨g7, c7, e7, _, _, _, _, hnew2⟩ := h1.num (i := k) (j := d - 1) (by rw [setM_len, sqM_len]; exact hkn) (by rw [setM_row (by rw [sqM_len]; exact hkn), if_pos rfl, List.length_set, sqM_rlen hkn]; omega)
      rw [e6] at e7
      simp only [Value.slice.injEq, Option.some.injEq, Addr.mk.injEq, and_true] at e7
      obtain ⟨rfl, -, -⟩ := e7
      have h2 := hnew2 (f k x)
      rw [swF_step hkn hx] at h2
      have HN := Lib.hid h2
      have b2 := (hb.setCell (p := ⟨g6, x, none⟩) hg6 (.int .i64 (f k (d - 1)))).setCell (p := ⟨g6, d - 1, none⟩) hg6 (.int .i64 (f k x))
      have hcast : ((d : Int) - 1) = ((d - 1 : Nat) : Int) := by omega
      obtain ⟨L, hL⟩ : ∃ L, L = d - 1 := ⟨_, rfl⟩
      have hLd : L < d := by omega
      obtain ⟨P, hP⟩ : ∃ P, P = f k x := ⟨_, rfl⟩
      obtain ⟨Q, hQ⟩ : ∃ Q, Q = f k (d - 1) := ⟨_, rfl⟩
      rw [← hQ] at hc8 HN b2
      rw [← hP] at hc6 HN b2
      rw [← hL] at hcast hc8 hf8 HN b2
      clear hro hnew h1 h2 hnew2 e6 hL hP hQ
      by_cases hxL : x = L
      · subst hxL
        obtain rfl : P = Q := by
          have h9 := hc6.symm.trans hc8
          simpa using h9
        have hcx := World.cell?_setCell_same wr ⟨g6, x, none⟩ (.int .i64 P) hc6
        go_wp2_with fail
        go_region
        all_goals
          go_wp2_with fail
          go_roundw
          case rel =>
            refine ⟨k + 1, by omega, by go_num, ?_, ?_⟩
            · first
              | exact HN.out
              | exact HN.out.below (Below.refl _ _).drew (Nat.le_refl _)
            · first
              | exact b2
              | exact b2.drew
          case measure => simp [intOf]; omega
      · have hxL2 : ¬ L = x := fun h => hxL h.symm
        go_wp2_with fail
        go_region
        all_goals
          go_wp2_with fail
          go_roundw
          case rel =>
            refine ⟨k + 1, by omega, by go_num, ?_, ?_⟩
            · first
              | exact HN.out
              | exact HN.out.below (Below.refl _ _).drew (Nat.le_refl _)
            · first
              | exact b2
              | exact b2.drew
          case measure => simp [intOf]; omega
    · obtain rfl : k = m := by omega
      have HR := Lib.hid hro
      clear hro
      go_wp2_with fail
      refine bodyPost_end (v := .tuple #[]) (by simp [results, Tryz.results111, go_sem]) rfl ?_
      exact ⟨rfl, HR.out, hb⟩

/-- a list in order, as the library sorts it -/
def srt (xs : List Int) : List Int := xs.mergeSort fun x y => decide (x ≤ y)
theorem srt_len (xs : List Int) : (srt xs).length = xs.length := List.length_mergeSort xs
theorem srt_mem (xs : List Int) (x : Int) : x ∈ srt xs ↔ x ∈ xs := List.mem_mergeSort
theorem srt_le (xs : List Int) : (srt xs).Pairwise (· ≤ ·) := by
  have h := List.pairwise_mergeSort (le := fun (x y : Int) => decide (x ≤ y)) (fun a b c h1 h2 => by simp only [decide_eq_true_eq] at *; omega) (fun a b => by simp only [Bool.or_eq_true, decide_eq_true_eq]; omega) xs
  exact h.imp (fun h => by simpa using h)

theorem ownsRow_cut {w : World} {B g n cap m : Nat} {t : TypeId} {xs : List Value} (h : w.ownsRow B t 1 (.slice (some ⟨g, 0, none⟩) n cap) n xs) (hm : m ≤ n) : w.ownsRow B t 1 (.slice (some ⟨g, 0, none⟩) m cap) m (xs.take m) := by
  have hl := h.1
  rcases h.2 with ⟨e0, _⟩ | ⟨g', cap', cur, e0, hbase, hb, h1, h2, h3, h4⟩
  · cases e0
  · simp only [Value.slice.injEq, Option.some.injEq, Addr.mk.injEq, and_true] at e0
    obtain ⟨rfl, -, rfl⟩ := e0
    refine ⟨by rw [List.length_take]; omega, .inr ⟨g, cap, cur, rfl, hbase, hb, by omega, h2, h3, ?_⟩⟩
    rw [← h4, List.take_take]
    congr 1
    omega



def Sh_laysNm223_ren : Go.Shelf.Ren := ⟨fun | 23 => 113 | n => n, fun | 22 => 24 | 3 => 3 | 4 => 4 | 0 => 0 | n => n, fun | n => n⟩
theorem Sh_laysNm223 : Go.Proofs.Lays2.n23 Tryz.prog Sh_laysNm223_ren := {
  mixed := by kernel_rfl
  f23 := Tryz.func113.trans (congrArg some (by kernel_rfl))
  t0 := Tryz.underlying0
  a0 := Tryz.isAgg0
  z0 := Tryz.sizeOf0
  v0 := Tryz.zeroValue0
  t3 := Tryz.underlying3
  a3 := Tryz.isAgg3
  z3 := Tryz.sizeOf3
  v3 := Tryz.zeroValue3
  t4 := Tryz.underlying4
  a4 := Tryz.isAgg4
  z4 := Tryz.sizeOf4
  v4 := Tryz.zeroValue4
  t22 := Tryz.underlying24
  a22 := Tryz.isAgg24
  z22 := Tryz.sizeOf24
  v22 := Tryz.zeroValue24
  i3 := by kernel_rfl }

open Go.RowKit Go.Lib Go.Sort in
theorem Sh_slices_Delete_int (blk off cap i j : Nat) (zs : List Int) (w : World) (hH : Holds (Value.int .i64) w blk off zs.toArray) (hcap : zs.length ≤ cap) (hm : cap ≤ 9223372036854775807) (hij : i ≤ j) (hj : j ≤ zs.length) :
    Calls Tryz.prog 113 #[.slice (some ⟨blk, off, none⟩) zs.length cap, .int .i64 i, .int .i64 j] w fun e w' => e = .returned (.slice (some ⟨blk, off, none⟩) (zs.length - (j - i)) cap) ∧ ∃ q, w' = putRow (Value.int .i64) (Sort.ahead w q) blk off (zs.take i ++ zs.drop j ++ List.replicate (j - i) 0).toArray := Any.slices_Delete_int Sh_laysNm223 blk off cap i j zs w hH hcap hm hij hj

/-- one number less -/
theorem delOwn (a : Option Addr) (cap i : Nat) (xs : List Int) (B : Nat) (w : World) (ho : OwnI w B (.slice a xs.length cap) xs) (hi : i < xs.length) :
    Calls Tryz.prog 113 #[.slice a xs.length cap, .int .i64 (i : Int), .int .i64 ((i : Int) + 1)] w fun e w' => e = .returned (.slice a (xs.length - 1) cap) ∧ OwnI w' B (.slice a (xs.length - 1) cap) (xs.take i ++ xs.drop (i+1)) ∧ w.grownBy w' (Value.slice a xs.length cap).ownBlock := by
  have hcap := ho.capLe
  rcases ho.2 with ⟨e0, h0⟩ | ⟨g, cap', cur, e0, hbase, hb, h1, h2, h3, h4⟩
  · omega
  · simp only [Value.slice.injEq] at e0
    obtain ⟨rfl, -, rfl⟩ := e0
    have hh := Go.holds_of_blockI (ss := xs) hb (by simpa using h4)
    have hl : (xs.take i ++ xs.drop (i+1)).length = xs.length - 1 := by rw [List.length_append, List.length_take, List.length_drop]; omega
    refine (Sh_slices_Delete_int g 0 cap i (i+1) xs w hh hcap (by unfold maxLen at h2; omega) (by omega) hi).mono ?_
    rintro e w' ⟨rfl, nn, rfl⟩
    rw [show i + 1 - i = 1 by omega]
    have hg := Go.grownBy_sortedI (w := w) (g := g) (n := nn) (os := #[]) (xs.take i ++ xs.drop (i+1) ++ List.replicate 1 0).toArray
    have ho := Go.ownsRow_sortedI (n := nn) (os := #[]) (ss := xs) (ts := xs.take i ++ xs.drop (i+1) ++ List.replicate 1 0) (by rw [List.length_append, hl, List.length_replicate]; omega) hbase hb h1 h2 h3
    rw [Go.Sort.grow_empty] at hg ho
    refine ⟨rfl, ?_, hg⟩
    have hc := ownsRow_cut ho (show xs.length - 1 ≤ xs.length by omega)
    have e1 : ((xs.take i ++ xs.drop (i+1) ++ List.replicate 1 0).map (Value.int .i64)).take (xs.length - 1) = (xs.take i ++ xs.drop (i+1)).map (Value.int .i64) := by
      rw [← List.map_take, ← hl, List.take_left']
      rfl
    rw [e1] at hc
    unfold OwnI
    rw [hl]
    exact hc

def revV (vl : List Value) (n k : Nat) : List Value := (List.range n).map fun i => if i < k ∨ n ≤ i + k then valAt vl (n - 1 - i) else valAt vl i
theorem revV_len (vl : List Value) (n k : Nat) : (revV vl n k).length = n := by simp [revV]
theorem revV_at {vl : List Value} {n k i : Nat} (h : i < n) : valAt (revV vl n k) i = if i < k ∨ n ≤ i + k then valAt vl (n - 1 - i) else valAt vl i := by simp [valAt, revV, List.getD_eq_getElem?_getD, h]
theorem vals_ext {vl ul : List Value} (hl : vl.length = ul.length) (h : ∀ i, i < vl.length → valAt vl i = valAt ul i) : vl = ul := by
  apply List.ext_getElem?
  intro i
  by_cases hi : i < vl.length
  · rw [valAt_get hi, valAt_get (by omega), h i hi]
  · rw [List.getElem?_eq_none (by omega), List.getElem?_eq_none (by omega)]
theorem valAt_set {vl : List Value} {k j : Nat} {u : Value} (hk : k < vl.length) : valAt (vl.set k u) j = if j = k then u else valAt vl j := by
  simp only [valAt, List.getD_eq_getElem?_getD, List.getElem?_set]
  by_cases e : k = j
  · subst e; simp [hk]
  · simp [e, Ne.symm e]
theorem revV_zero {vl : List Value} : revV vl vl.length 0 = vl :=
  vals_ext (revV_len _ _ _) (fun i hi => by rw [revV_len] at hi; rw [revV_at hi, if_neg (by omega)])
theorem revV_step {vl : List Value} {n k : Nat} (h : 2 * k + 1 < n) : ((revV vl n k).set k (valAt vl (n - 1 - k))).set (n - 1 - k) (valAt vl k) = revV vl n (k+1) := by
  refine vals_ext (by simp [revV]) (fun i hi => ?_)
  rw [List.length_set, List.length_set, revV_len] at hi
  rw [valAt_set (by rw [List.length_set, revV_len]; omega), valAt_set (by rw [revV_len]; omega), revV_at hi, revV_at hi]
  by_cases e1 : i = n - 1 - k
  · rw [if_pos e1, if_pos (by omega)]
    congr 1; omega
  · rw [if_neg e1]
    by_cases e2 : i = k
    · rw [if_pos e2, if_pos (by omega), e2]
    · rw [if_neg e2]
      by_cases e3 : i < k ∨ n ≤ i + k
      · rw [if_pos e3, if_pos (by omega)]
      · rw [if_neg e3, if_neg (by omega)]
theorem revV_end {vl : List Value} {k : Nat} (h : vl.length ≤ 2 * k + 1) : revV vl vl.length k = vl.reverse := by
  refine vals_ext (by simp [revV]) (fun i hi => ?_)
  rw [revV_len] at hi
  have hr : valAt vl.reverse i = valAt vl (vl.length - 1 - i) := by
    simp [valAt, List.getD_eq_getElem?_getD, List.getElem?_reverse hi]
  rw [revV_at hi, hr]
  split
  · rfl
  · congr 1; omega

theorem ownsRow_cells {B g n c : Nat} {t : TypeId} : ∀ {vs : List Value} {o : Nat} {w : World} {xs : List Value}, o + vs.length ≤ n → w.ownsRow B t 1 (.slice (some ⟨g, 0, none⟩) n c) n xs → (w.setCells g o vs).ownsRow B t 1 (.slice (some ⟨g, 0, none⟩) n c) n (xs.take o ++ vs ++ xs.drop (o + vs.length)) ∧ w.grownBy (w.setCells g o vs) (some g)
  | [], o, w, xs, _, h => by
    refine ⟨?_, World.grownBy.refl _ _⟩
    rw [List.append_nil, List.length_nil, Nat.add_zero, List.take_append_drop]
    exact h
  | v :: vs, o, w, xs, hl, h => by
    have hxl : xs.length = n := by have := h.1; omega
    rw [List.length_cons] at hl
    have h1 := World.ownsRow.stored h o v
    have ⟨h2, h3⟩ := ownsRow_cells (vs := vs) (o := o + 1) (by omega) h1.1
    refine ⟨?_, grown_trans h1.2 h3⟩
    have e : (xs.set o v).take (o+1) ++ vs ++ (xs.set o v).drop (o + 1 + vs.length) = xs.take o ++ (v :: vs) ++ xs.drop (o + (v :: vs).length) := by
      have e1 : (xs.set o v).take (o+1) = xs.take o ++ [v] := by
        rw [List.take_succ_eq_append_getElem (by rw [List.length_set]; omega), List.getElem_set_self, List.take_set_of_le (Nat.le_refl o)]
      have e2 : (xs.set o v).drop (o + 1 + vs.length) = xs.drop (o + (v :: vs).length) := by
        rw [List.length_cons, List.drop_set_of_lt (by omega), show o + 1 + vs.length = o + (vs.length + 1) by omega]
      rw [e1, e2]
      simp
    rw [e] at h2
    exact h2

set_option maxRecDepth 100000 in
set_option maxHeartbeats 1000000 in
/-- one row less, in place -/
theorem delRows_any (g n c B i : Nat) (vl : List Value) (w : World) (h : w.ownsRow B 24 1 (.slice (some ⟨g, 0, none⟩) n c) n vl) (hsl : ∀ i, i < n → ∃ a m c, valAt vl i = .slice a m c) (hi : i < n) (hnc : n ≤ c) (hc63 : c ≤ 1048576) :
    Calls Tryz.prog 112 #[.slice (some ⟨g, 0, none⟩) n c, .int .i64 (i : Int), .int .i64 ((i : Int) + 1)] w fun e w' => e = .returned (.slice (some ⟨g, 0, none⟩) (n - 1) c) ∧ w'.ownsRow B 24 1 (.slice (some ⟨g, 0, none⟩) (n - 1) c) (n - 1) (vl.take i ++ vl.drop (i+1)) ∧ w.grownBy w' (some g) := by
  obtain ⟨j0, hj0, hy0, hy1, hy2⟩ := info_parts infoRow0
  have hl : vl.length = n := by have := h.1; omega
  obtain ⟨J, hJ⟩ : ∃ J, J = i + 1 := ⟨_, rfl⟩
  have hcast : ((i : Int) + 1) = (J : Int) := by omega
  have hne : ¬ i = J := by omega
  obtain ⟨news, hnews⟩ : ∃ news, news = vl.drop J := ⟨_, rfl⟩
  have hlen : news.length = n - J := by rw [hnews, List.length_drop]; omega
  have hdr : w.drew.ownsRow B 24 1 (.slice (some ⟨g, 0, none⟩) n c) n vl := ownsRow_bel h (Below.refl _ _).drew (Nat.le_refl _)
  have hat : ∀ t, t < n → w.drew.cell? ⟨g, t, none⟩ = some (valAt vl t) := fun t ht => by rw [World.ownsRow.cellAt hdr t (by omega), valAt_get (by omega)]
  obtain ⟨A, hA, hsrc⟩ : ∃ A : Addr, (if c = J then some (⟨g, 0, none⟩ : Addr) else some ⟨g, J, none⟩) = some A ∧ Hid (∀ t u, news[t]? = some u → w.drew.cell? (A.add t) = some u) := by
    by_cases h9 : c = J
    · refine ⟨⟨g, 0, none⟩, by simp [h9], fun t u hu => ?_⟩
      have := (List.getElem?_eq_some_iff.1 hu).1
      omega
    · refine ⟨⟨g, J, none⟩, by simp [h9], fun t u hu => ?_⟩
      have ht := (List.getElem?_eq_some_iff.1 hu).1
      rw [hnews, List.getElem?_drop, valAt_get (by omega)] at hu
      rw [Addr.add_lit, hat _ (by omega)]
      exact hu
  have s1 : Hid (news.length = (n - J) * 1) := by rw [Hid, Nat.mul_one]; exact hlen
  have s2 : Hid (∀ u ∈ news, u.oneCell' = true) := by
    intro u hu
    obtain ⟨t, ht, rfl⟩ := List.mem_iff_getElem.1 hu
    have e : news[t]? = some news[t] := List.getElem?_eq_getElem ht
    generalize news[t] = u at e ⊢
    rw [hnews, List.getElem?_drop, valAt_get (by omega)] at e
    obtain ⟨a5, m5, c5, e5⟩ := hsl (J + t) (by omega)
    rw [e5] at e
    simp only [Option.some.injEq] at e
    rw [← e]; rfl
  have s3 : Hid (∀ t, t < news.length → (w.drew.cell? ⟨g, 0 + i * 1 + t, none⟩).isSome = true ∧ w.drew.frozen? ⟨g, 0 + i * 1 + t, none⟩ = false) := by
    intro t ht
    rw [Nat.mul_one, Nat.zero_add]
    exact ⟨by rw [hat _ (by omega)]; rfl, World.ownsRow.frozenAt hdr (i + t)⟩
  obtain ⟨W1, hW1⟩ : ∃ W1, W1 = w.drew.setCells g (0 + i * 1) news := ⟨_, rfl⟩
  have hW : Hid (W1 = w.drew.setCells g (0 + i * 1) news) := hW1
  have ⟨o1, g1⟩ := ownsRow_cells (vs := news) (o := 0 + i * 1) (by omega) hdr
  rw [← hW1] at o1 g1
  rw [show 0 + i * 1 = i by omega] at o1
  have hcl : ∀ ty, (Builtin.clear_ #[43] ty #[.slice (some ⟨g, n - 1, none⟩) (n - (n - 1)) (c - (n - 1))]).run Tryz.prog W1 = .ok (.tuple #[]) (W1.setCells g (n - 1) (List.replicate 1 (.slice none 0 0))) := fun ty => by
    rw [show n - (n - 1) = 1 by omega]
    exact Lib.run_clear_slice W1 _ _ ty _ Tryz.underlying43 Tryz.zeroValue24 rfl rfl g (n - 1) 1 _ (by omega) (fun t ht => by
      obtain rfl : t = 0 := by omega
      rw [Nat.add_zero, World.ownsRow.cellAt o1 (n - 1) (by omega), List.getElem?_eq_getElem (by have := o1.1; omega)]; rfl) (fun t ht => by
      obtain rfl : t = 0 := by omega
      exact World.ownsRow.frozenAt o1 (n - 1))
  have ⟨o2, g2⟩ := ownsRow_cells (vs := List.replicate 1 (Value.slice none 0 0)) (o := n - 1) (by rw [List.length_replicate]; omega) o1
  have o3 := ownsRow_cut o2 (show n - 1 ≤ n by omega)
  have hfin : Hid ((W1.setCells g (n - 1) (List.replicate 1 (Value.slice none 0 0))).ownsRow B 24 1 (.slice (some ⟨g, 0, none⟩) (n - 1) c) (n - 1) (vl.take i ++ vl.drop J) ∧ w.grownBy (W1.setCells g (n - 1) (List.replicate 1 (Value.slice none 0 0))) (some g)) := by
    refine ⟨?_, grown_trans (grown_trans (below_grown (Below.refl _ _).drew (Nat.le_refl _) _) g1) g2⟩
    have e : ((vl.take i ++ news ++ vl.drop (i + news.length)).take (n - 1) ++ List.replicate 1 (Value.slice none 0 0) ++ (vl.take i ++ news ++ vl.drop (i + news.length)).drop (n - 1 + (List.replicate 1 (Value.slice none 0 0)).length)).take (n - 1) = vl.take i ++ vl.drop J := by
      have h5 : (vl.take i ++ news).length = n - 1 := by rw [List.length_append, List.length_take, hlen]; omega
      have h6 : (vl.take i ++ news ++ vl.drop (i + news.length)).take (n - 1) = vl.take i ++ news := by rw [← h5, List.take_left']; rfl
      rw [h6, List.append_assoc, ← h5, List.take_left' rfl, hnews]
    rw [e] at o3
    exact o3
  have hic : i ≤ c := by omega
  have hic1 : J ≤ c := by omega
  have hin : J ≤ n := by omega
  have hij : i ≤ J := by omega
  have hii : i < J := by omega
  have hnn : i + (n - J) = n - 1 := by omega
  have HJ := Lib.hid hJ
  rw [hcast, ← hJ]
  clear hJ hW1 hnews hdr hat o1 g1 o2 g2 o3 hcast h hsl hl
  go_enter Tryz.func112, Tryz.ntmps112
  go_wp2_with fail
  go_region_law (refine step_append_room rfl (.tmp 22) (.tmp 25) 43 rfl 24 j0 1 Tryz.underlying43 hj0 hy1 g 0 i c (by simp [Act.eval, Act.put]) A (n - J) (c - J) news (by simp [Act.eval, Act.put]) s1.out hsrc.out s2.out (by omega) s3.out ?_; rw [← hW.out])
  all_goals
    have hle : n - 1 ≤ n := by omega
    have hlc : n - 1 ≤ c := by omega
    go_wp2_with fail
    go_ret
    exact ⟨rfl, hfin.out.1, hfin.out.2⟩

def skp (x a : Nat) : Nat := if a < x then a else a + 1
theorem RowsP.swapRow {w w2 : World} {B : Nat} {v u : Value} {vl : List Value} {xss : List (List Int)} {r : List Int} (h : RowsP w B v vl xss) {k : Nat} (hk : k < xss.length) (hg : w.grownBy w2 (valAt vl k).ownBlock) (hu : OwnI w2 B u r) (hub : u.ownBlock = (valAt vl k).ownBlock) :
    ∃ g c, v = .slice (some ⟨g, 0, none⟩) xss.length c ∧ B ≤ g ∧ g < w2.heap.size ∧ (∃ z, w2.cell? ⟨g, k, none⟩ = some z) ∧ w2.frozen? ⟨g, k, none⟩ = false ∧ RowsP (w2.setCell ⟨g, k, none⟩ u) B v (vl.set k u) (xss.set k r) := by
  have hl := h.o.vlen
  have hout : w2.ownsRow B 24 1 v xss.length vl := World.ownsRow.kept h.o.own hg (own_ne (fun c h1 h2 => h.o.apart k hk c h2 h1))
  rcases h.o.own.2 with ⟨e, h0⟩ | ⟨g, cap3, cur, e, hb, hgg, _⟩
  · omega
  · subst e
    have h1 := World.ownsRow.cellAt hout k (by omega)
    have hgr := grown_set w2 ⟨g, k, none⟩ u
    have hval : ∀ j, valAt (vl.set k u) j = if j = k then u else valAt vl j := fun j => valAt_set (by omega)
    have hrow : ∀ j, j < xss.length → rowL (xss.set k r) j = if j = k then r else rowL xss j := by
      intro j hj
      simp only [rowL, List.getD_eq_getElem?_getD, List.getElem?_set]
      by_cases e : k = j
      · subst e; simp [hk]
      · simp [e, Ne.symm e]
    refine ⟨g, cap3, rfl, hb, (World.ownsRow.lt hout g rfl).2, ⟨_, by rw [h1, valAt_get (by omega)]⟩, World.ownsRow.frozenAt hout k, ⟨⟨?_, fun j hj => ?_, fun j hj c hc => ?_⟩, fun i j hij hj c hc => ?_⟩⟩
    · rw [List.length_set]
      exact (World.ownsRow.stored hout k u).1
    · rw [List.length_set] at hj
      rw [hval, hrow j hj]
      by_cases e : j = k
      · rw [if_pos e, if_pos e]
        exact hu.kept hgr (own_nb (fun c h1 h2 => h.o.apart k hk c (by rw [← hub]; exact h1) (by rw [h2]; rfl)))
      · rw [if_neg e, if_neg e]
        have h3 : OwnI w2 B (valAt vl j) (rowL xss j) := (h.o.row j hj).kept hg (own_ne (fun c h4 h5 => by
          rcases Nat.lt_or_gt_of_ne e with h6 | h6
          · exact h.pair j k h6 hk c h4 h5
          · exact h.pair k j h6 hj c h5 h4))
        exact h3.kept hgr (own_nb (fun c h1 h2 => h.o.apart j hj c h1 (by rw [h2]; rfl)))
    · rw [List.length_set] at hj
      rw [hval] at hc
      by_cases e : j = k
      · rw [if_pos e, hub] at hc; exact h.o.apart k hk c hc
      · rw [if_neg e] at hc; exact h.o.apart j hj c hc
    · rw [List.length_set] at hj
      rw [hval] at hc ⊢
      by_cases e : j = k
      · rw [if_pos e, hub]
        rw [if_neg (by omega)] at hc
        exact h.pair i k (by omega) hk c hc
      · rw [if_neg e]
        by_cases e2 : i = k
        · rw [if_pos e2, hub] at hc
          exact h.pair k j (by omega) hj c hc
        · rw [if_neg e2] at hc
          exact h.pair i j hij hj c hc
/-- one row less -/
theorem RowsP.del {w w' : World} {B g n c i : Nat} {vl : List Value} {f : Nat → Nat → Int} {m : Nat} (h : RowsP w B (.slice (some ⟨g, 0, none⟩) n c) vl (sqM f n m)) (hi : i < n) (ho : w'.ownsRow B 24 1 (.slice (some ⟨g, 0, none⟩) (n - 1) c) (n - 1) (vl.take i ++ vl.drop (i+1))) (hg : w.grownBy w' (some g)) :
    RowsP w' B (.slice (some ⟨g, 0, none⟩) (n - 1) c) (vl.take i ++ vl.drop (i+1)) (sqM (fun a b => f (skp i a) b) (n - 1) m) := by
  have hl := h.o.vlen
  rw [sqM_len] at hl
  have hv : ∀ k, k < n - 1 → valAt (vl.take i ++ vl.drop (i+1)) k = valAt vl (skp i k) := fun k hk => by
    rw [valAt, List.getD_eq_getElem?_getD, skp]
    by_cases e : k < i
    · rw [if_pos e, List.getElem?_append_left (by rw [List.length_take]; omega), List.getElem?_take, if_pos e, valAt, List.getD_eq_getElem?_getD]
    · rw [if_neg e, List.getElem?_append_right (by rw [List.length_take]; omega), List.getElem?_drop, List.length_take, valAt, List.getD_eq_getElem?_getD]
      congr 2
      omega
  have hs : ∀ k, k < n - 1 → skp i k < n := fun k hk => by rw [skp]; split <;> omega
  have hm : ∀ j k, j < k → skp i j < skp i k := fun j k hjk => by rw [skp, skp]; split <;> split <;> omega
  refine ⟨⟨by rw [sqM_len]; exact ho, fun k hk => ?_, fun k hk c hc => ?_⟩, fun j k hjk hk c hc => ?_⟩
  · rw [sqM_len] at hk
    rw [hv k hk, sqM_row hk]
    have h1 := h.o.row (skp i k) (by rw [sqM_len]; exact hs k hk)
    rw [sqM_row (hs k hk)] at h1
    exact h1.kept hg (own_nb (fun c h2 h3 => h.o.apart _ (by rw [sqM_len]; exact hs k hk) c h2 (by rw [h3]; rfl)))
  · rw [sqM_len] at hk
    rw [hv k hk] at hc
    exact h.o.apart _ (by rw [sqM_len]; exact hs k hk) c hc
  · rw [sqM_len] at hk
    rw [hv j (by omega)] at hc
    rw [hv k hk]
    exact h.pair _ _ (hm j k hjk) (by rw [sqM_len]; exact hs k hk) c hc
/-- the rows while a column is taken out, the first k being done -/
def tkM (f : Nat → Nat → Int) (n x k : Nat) : List (List Int) := (List.range (n-1)).map fun a => if a < k then fmap (fun b => f a (skp x b)) (n - 1) else fmap (f a) n
theorem tkM_len (f : Nat → Nat → Int) (n x k : Nat) : (tkM f n x k).length = n - 1 := by simp [tkM]
theorem tkM_row {f : Nat → Nat → Int} {n x k a : Nat} (h : a < n - 1) : rowL (tkM f n x k) a = if a < k then fmap (fun b => f a (skp x b)) (n - 1) else fmap (f a) n := by simp [tkM, rowL, h]
theorem tkM_zero {f : Nat → Nat → Int} {n x : Nat} : tkM f n x 0 = sqM f (n - 1) n := by
  refine rows_ext (by rw [tkM_len, sqM_len]) (fun i hi => ?_)
  rw [tkM_len] at hi
  rw [tkM_row hi, sqM_row hi, if_neg (by omega)]
theorem tkM_end {f : Nat → Nat → Int} {n x : Nat} : tkM f n x (n-1) = sqM (fun a b => f a (skp x b)) (n - 1) (n - 1) := by
  refine rows_ext (by rw [tkM_len, sqM_len]) (fun i hi => ?_)
  rw [tkM_len] at hi
  rw [tkM_row hi, sqM_row hi, if_pos hi]
theorem fmap_del {f : Nat → Int} {n x : Nat} (hx : x < n) : (fmap f n).take x ++ (fmap f n).drop (x+1) = fmap (fun b => f (skp x b)) (n - 1) := by
  apply List.ext_getElem?
  intro i
  have hl := fmap_len f n
  by_cases hi : i < n - 1
  · have e : (fmap (fun b => f (skp x b)) (n - 1))[i]? = some (f (skp x i)) := by simp [fmap, hi]
    rw [e, skp]
    by_cases h : i < x
    · rw [List.getElem?_append_left (by rw [List.length_take]; omega), List.getElem?_take, if_pos h, if_pos h]
      simp [fmap, show i < n by omega]
    · rw [List.getElem?_append_right (by rw [List.length_take]; omega), List.getElem?_drop, List.length_take, if_neg h, hl, show x + 1 + (i - min x n) = i + 1 by omega]
      simp [fmap, show i + 1 < n by omega]
  · rw [List.getElem?_eq_none (by rw [List.length_append, List.length_take, List.length_drop, hl]; omega), List.getElem?_eq_none (by rw [fmap_len]; omega)]
theorem tkM_step {f : Nat → Nat → Int} {n x k : Nat} (hk : k < n - 1) (hx : x < n) : (tkM f n x k).set k ((rowL (tkM f n x k) k).take x ++ (rowL (tkM f n x k) k).drop (x+1)) = tkM f n x (k+1) := by
  refine rows_ext (by rw [List.length_set, tkM_len, tkM_len]) (fun i hi => ?_)
  rw [List.length_set, tkM_len] at hi
  have : ∀ r, rowL ((tkM f n x k).set k r) i = if i = k then r else rowL (tkM f n x k) i := by
    intro r
    simp only [rowL, List.getD_eq_getElem?_getD, List.getElem?_set]
    by_cases e : k = i
    · subst e; simp [tkM_len, hk]
    · simp [e, Ne.symm e]
  rw [this, tkM_row hi, tkM_row hk, if_neg (Nat.lt_irrefl k), fmap_del hx]
  by_cases e : i = k
  · subst e
    rw [if_pos rfl, tkM_row hi, if_pos (by omega)]
  · rw [if_neg e, tkM_row hi]
    by_cases h : i < k
    · rw [if_pos h, if_pos (by omega)]
    · rw [if_neg h, if_neg (by omega)]
/-- what is left when the row and the column x have been taken out -/
def shF (f : Nat → Nat → Int) (d x : Nat) (a b : Nat) : Int := swF f d x x (skp x a) (skp x b)

/-- the number in the last column of the row x made less by 1 -/
def decF (f : Nat → Nat → Int) (d x : Nat) (a b : Nat) : Int := if a = x ∧ b = d - 1 then f x (d - 1) - 1 else f a b
theorem shF_dec {f : Nat → Nat → Int} {d x : Nat} : sqM (shF (decF f d x) d x) (d - 1) (d - 1) = sqM (shF f d x) (d - 1) (d - 1) := by
  refine sqM_congr (fun a ha b hb => ?_)
  have hne : skp x a ≠ x := by rw [skp]; split <;> omega
  have e : ∀ q, decF f d x (skp x a) q = f (skp x a) q := fun q => by rw [decF, if_neg (fun h => hne h.1)]
  rw [shF, shF, swF, swF, e, e, e]
/-- a matrix before it was grown -/
def shL (xss : List (List Int)) : List (List Int) := if topB xss then (if totR (rowL xss (topN xss)) = 1 then sqM (shF (atM xss) xss.length (topN xss)) (xss.length - 1) (xss.length - 1) else sqM (decF (atM xss) xss.length (topN xss)) xss.length xss.length) else []
theorem topB_mx {xss : List (List Int)} (h : topB xss = true) : mxB xss = true ∧ 0 < xss.length := by
  simp only [topB, Bool.and_eq_true, decide_eq_true_eq] at h
  exact ⟨h.1, by omega⟩
theorem shL_len (xss : List (List Int)) : (shL xss).length + totS (shL xss) (shL xss).length ≤ 1048576 := by
  unfold shL
  split
  · rename_i h
    have := mxB_small (topB_mx h).1
    split
    · exact sq_len (by omega)
    · exact sq_len (by omega)
  · simp [totS]

/-- a row of the matrix before the column x is taken out -/
def rowU (f : Nat → Nat → Int) (d x i q : Nat) : Int := if (i < x ∧ x < d - 1) ∧ q = d - 1 then f i x else f i q
theorem shF_row {f : Nat → Nat → Int} {d x i j : Nat} (hj : skp x j = i) : fmap (fun b => rowU f d x i (skp x b)) (d - 1) = fmap (shF f d x j) (d - 1) :=
  fmap_ext (fun b hb => by
    have h1 : skp x b ≠ x := by rw [skp]; split <;> omega
    have h2 : skp x b = d - 1 → x < d - 1 := fun h => by rw [skp] at h; split at h <;> omega
    rw [shF, hj, rowU, swF]
    by_cases h3 : i < x
    · rw [if_pos h3]
      by_cases h4 : skp x b = d - 1
      · rw [if_pos ⟨⟨h3, h2 h4⟩, h4⟩, if_pos h4]
      · rw [if_neg (fun h => h4 h.2), if_neg h4, if_neg h1]
    · rw [if_neg (fun h => h3 h.1.1), if_neg h3])

theorem colsL_sq (xss : List (List Int)) : colsL xss = sqM (fun a b => atM xss b a) xss.length xss.length := rfl

theorem totR_sum (xs : List Int) : totR xs = xs.sum := by
  have : ∀ k, k ≤ xs.length → totI xs k = (xs.take k).sum := by
    intro k
    induction k with
    | zero => intro _; rfl
    | succ k ih =>
      intro hk
      rw [totI, ih (by omega), List.take_succ_eq_append_getElem (by omega), List.sum_append, nth_get _ _ (by omega)]
      simp
  rw [totR, this _ (Nat.le_refl _), List.take_length]
theorem tot_fmap (h : Nat → Int) (n : Nat) : totI (fmap h n) n = totR (fmap h n) := by rw [totR, fmap_len]
theorem tot_skip {h : Nat → Int} {n x : Nat} (hx : x < n) : totR (fmap (fun a => h (skp x a)) (n - 1)) + h x = totR (fmap h n) := by
  rw [← fmap_del hx, totR_sum, totR_sum, List.sum_append]
  have e : fmap h n = (fmap h n).take x ++ ([h x] ++ (fmap h n).drop (x+1)) := by
    have h1 := (List.take_append_drop x (fmap h n)).symm
    rw [List.drop_eq_getElem_cons (by rw [fmap_len]; exact hx)] at h1
    have h2 : (fmap h n)[x]'(by rw [fmap_len]; exact hx) = h x := by simp [fmap]
    rw [h2] at h1
    exact h1
  have h3 := congrArg List.sum e
  rw [List.sum_append, List.sum_append] at h3
  simp at h3
  omega
theorem tot_ex {h : Nat → Int} {n : Nat} (ht : 0 < totR (fmap h n)) (hn : ∀ j, j < n → 0 ≤ h j) : ∃ j, j < n ∧ 0 < h j := by
  apply Classical.byContradiction
  intro hno
  have hz : totI (fmap h n) (fmap h n).length = 0 := totI_zero (fun j hj => by
    rw [fmap_len] at hj
    rw [fmap_nth _ hj]
    have h1 := hn j hj
    have h2 : ¬ 0 < h j := fun h3 => hno ⟨j, hj, h3⟩
    omega)
  rw [totR, hz] at ht
  omega
theorem tot_pos {h : Nat → Int} {n j : Nat} (hn : ∀ j, j < n → 0 ≤ h j) (hj : j < n) (hp : 0 < h j) : 0 < totR (fmap h n) := by
  have h1 := totI_at (xs := fmap h n) (j := j) (k := n) hj (fun i hi => by rw [fmap_nth _ hi]; exact hn i hi)
  rw [fmap_nth _ hj, tot_fmap] at h1
  omega
theorem sqS_rows {f : Nat → Nat → Int} {n : Nat} : ∀ {m : Nat}, sqS f n m = totR (fmap (fun i => totR (fmap (f i) n)) m)
  | 0 => rfl
  | m+1 => by
    rw [sqS, sqS_rows (f := f) (n := n) (m := m), ← tot_fmap (fun i => totR (fmap (f i) n)) (m+1), totI, fmap_nth _ (show m < m + 1 by omega), totI_fmap (f := fun i => totR (fmap (f i) n)) (n := m + 1) (k := m) (by omega), tot_fmap]
    rw [tot_fmap (fun i => totR (fmap (f i) n)) m]
theorem mk_mx {g : Nat → Nat → Int} {n : Nat} (hnn : ∀ i, i < n → ∀ j, j < n → 0 ≤ g i j) (hup : ∀ i, i < n → ∀ j, j < i → g i j = 0) (hrow : ∀ i, i < n → 0 < totR (fmap (g i) n)) (hcol : ∀ j, j < n → 0 < totR (fmap (fun i => g i j) n)) (hs : sqS g n n ≤ 12) : mxB (sqM g n n) = true ∧ matS (sqM g n n) (sqM g n n).length = sqS g n n := by
  have hcols : colsL (sqM g n n) = sqM (fun a b => g b a) n n := by
    rw [colsL_sq, sqM_len]
    exact sqM_congr (fun i hi j hj => sqM_at hj hi)
  have hms : matS (sqM g n n) (sqM g n n).length = sqS g n n := by
    rw [sqM_len, matS_sq (n := n) (fun i hi => sqM_rlen hi)]
    have : ∀ k, k ≤ n → sqS (atM (sqM g n n)) n k = sqS g n k := by
      intro k
      induction k with
      | zero => intro _; rfl
      | succ k ih =>
        intro hk
        rw [sqS, sqS, ih (by omega)]
        congr 1
        exact totI_congr (fun j hj => by rw [fmap_nth _ hj, fmap_nth _ hj, sqM_at (by omega) hj])
    exact this n (Nat.le_refl _)
  refine ⟨mxB_iff.2 ⟨adB_iff.2 ⟨fun k hk => ?_, by rw [hms]; exact hs⟩, upB_iff.2 (fun i hi => ?_), ?_⟩, hms⟩
  · rw [sqM_len] at hk
    rw [sqM_row hk]
    exact ⟨fun j hj => by rw [fmap_len] at hj; rw [fmap_nth _ hj]; exact hnn k hk j hj, hrow k hk⟩
  · rw [sqM_len] at hi
    rw [sqM_len]
    exact ⟨sqM_rlen hi, fun j hj => by rw [sqM_at hi (by omega)]; exact hup i hi j hj⟩
  · have hmc := matS_cols (xss := sqM g n n) (fun i hi => by rw [sqM_len] at hi ⊢; exact sqM_rlen hi)
    rw [hcols] at hmc ⊢
    refine adB_iff.2 ⟨fun k hk => ?_, by rw [hmc, hms]; exact hs⟩
    rw [sqM_len] at hk
    rw [sqM_row hk]
    exact ⟨fun j hj => by rw [fmap_len] at hj; rw [fmap_nth _ hj]; exact hnn j hj k hk, hcol k hk⟩
/-- what a matrix says of its numbers -/
theorem of_mx {xss : List (List Int)} (h : mxB xss = true) : (∀ i, i < xss.length → 0 < totR (fmap (atM xss i) xss.length)) ∧ (∀ j, j < xss.length → 0 < totR (fmap (fun i => atM xss i j) xss.length)) ∧ (∀ i, i < xss.length → ∀ j, j < i → atM xss i j = 0) ∧ matS xss xss.length = sqS (atM xss) xss.length xss.length ∧ sqS (atM xss) xss.length xss.length ≤ 12 := by
  have ⟨h1, h2, h3⟩ := mxB_iff.1 h
  have hms := matS_sq (xss := xss) (n := xss.length) (k := xss.length) (fun i hi => mxB_len h hi)
  refine ⟨fun i hi => ?_, fun j hj => ?_, fun i hi => (upB_iff.1 h2 i hi).2, hms, by rw [← hms]; exact (adB_iff.1 h1).2⟩
  · have h4 := (adB_row h1 hi).1
    have h5 : rowL xss i = fmap (atM xss i) xss.length := by
      have h6 := list_fmap (rowL xss i)
      rw [mxB_len h hi] at h6
      exact h6
    rw [h5] at h4; exact h4
  · have h4 := (adB_row h3 (k := j) (by rw [colsL_len]; exact hj)).1
    rw [colsL_row hj] at h4
    exact h4
/-- a row keeps its sum -/
theorem sh_row {f : Nat → Nat → Int} {d x i j : Nat} (hj : skp x j = i) (hx : x < d) (hup : ∀ j, j < i → f i j = 0) (hz : i < x → f i (d - 1) = 0) : totR (fmap (shF f d x j) (d - 1)) = totR (fmap (f i) d) := by
  have hne : i ≠ x := by rw [← hj, skp]; split <;> omega
  rw [← shF_row hj]
  have h1 := tot_skip (h := rowU f d x i) hx
  by_cases hc : i < x ∧ x < d - 1
  · have h2 : fmap (rowU f d x i) d = (fmap (f i) d).set (d - 1) (f i x) := by
      rw [list_fmap ((fmap (f i) d).set (d - 1) (f i x))]
      simp only [List.length_set, fmap_len]
      refine fmap_ext (fun b hb => ?_)
      rw [nth_setM (by rw [fmap_len]; omega), fmap_nth _ hb, rowU]
      by_cases e : b = d - 1
      · rw [if_pos ⟨hc, e⟩, if_pos e]
      · rw [if_neg (fun h => e h.2), if_neg e]
    have h3 := tot_skip (h := rowU f d x i) (n := d) (x := d - 1) (by omega)
    have h4 := tot_skip (h := f i) (n := d) (x := d - 1) (by omega)
    have h5 : fmap (fun a => rowU f d x i (skp (d - 1) a)) (d - 1) = fmap (fun a => f i (skp (d - 1) a)) (d - 1) := fmap_ext (fun a ha => by
      rw [rowU, if_neg]
      rintro ⟨_, h6⟩
      rw [skp] at h6
      split at h6 <;> omega)
    rw [h5] at h3
    have h7 : rowU f d x i (d - 1) = f i x := by rw [rowU, if_pos ⟨hc, rfl⟩]
    have h8 : rowU f d x i x = f i x := by rw [rowU, if_neg (fun h => by omega)]
    have h9 := hz hc.1
    rw [h7] at h3
    rw [h8] at h1
    omega
  · have h2 : fmap (rowU f d x i) d = fmap (f i) d := fmap_ext (fun b hb => by rw [rowU, if_neg (fun h => hc h.1)])
    have h8 : rowU f d x i x = f i x := by rw [rowU, if_neg (fun h => hc h.1)]
    have h9 : f i x = 0 := by
      by_cases h : i < x
      · have : x = d - 1 := by omega
        rw [this]; exact hz h
      · exact hup x (by omega)
    rw [h2, h8] at h1
    omega
/-- a matrix that has been shrunk is a matrix, its sum is one less -/
theorem sh_mx {xss : List (List Int)} (h : topB xss = true) : mxB (shL xss) = true ∧ matS (shL xss) (shL xss).length + 1 = matS xss xss.length := by
  have ⟨hmx, hpos⟩ := topB_mx h
  have htl := topN_lt hmx hpos
  have ⟨hr, hc, hup, hms, h12⟩ := of_mx hmx
  have hnn : ∀ i, i < xss.length → ∀ j, j < xss.length → 0 ≤ atM xss i j := fun i hi j hj => (mxB_num hmx hi hj).1
  have hzt : ∀ i, i < topN xss → atM xss i (xss.length - 1) = 0 := fun i hi => topN_zero hi
  have hne := topN_ne hmx hpos
  have hrT : totR (rowL xss (topN xss)) = totR (fmap (atM xss (topN xss)) xss.length) := by
    have h6 := list_fmap (rowL xss (topN xss))
    rw [mxB_len hmx htl] at h6
    exact congrArg totR h6
  rw [shL, if_pos h, hrT, hms]
  generalize hx : topN xss = x at *
  generalize hf : atM xss = f at *
  generalize hd : xss.length = d at *
  clear hx hf hd h hmx hrT hms
  have hnx := hnn x htl (d - 1) (by omega)
  have hdd : 0 < f (d - 1) (d - 1) := by
    obtain ⟨j, hj, hp⟩ := tot_ex (hr (d - 1) (by omega)) (fun j hj => hnn (d - 1) (by omega) j hj)
    by_cases e : j = d - 1
    · rw [e] at hp; exact hp
    · have := hup (d - 1) (by omega) j (by omega); omega
  split
  · rename_i hS
    have hsk : ∀ a, a < d - 1 → skp x a < d ∧ skp x a ≠ x := fun a ha => by rw [skp]; split <;> omega
    have hval : ∀ a b, a < d - 1 → b < d - 1 → shF f d x a b = if skp x a < x ∧ skp x b = d - 1 then f (skp x a) x else f (skp x a) (skp x b) := fun a b ha hb => by
      have h1 := (hsk b hb).2
      rw [shF, swF]
      by_cases h2 : skp x a < x
      · rw [if_pos h2]
        by_cases h3 : skp x b = d - 1
        · rw [if_pos h3, if_pos ⟨h2, h3⟩]
        · rw [if_neg h3, if_neg h1, if_neg (fun h => h3 h.2)]
      · rw [if_neg h2, if_neg (fun h => h2 h.1)]
    have hnn2 : ∀ a, a < d - 1 → ∀ b, b < d - 1 → 0 ≤ shF f d x a b := fun a ha b hb => by
      rw [hval a b ha hb]
      split
      · exact hnn _ (hsk a ha).1 _ htl
      · exact hnn _ (hsk a ha).1 _ (hsk b hb).1
    have hrow2 : ∀ a, a < d - 1 → totR (fmap (shF f d x a) (d - 1)) = totR (fmap (f (skp x a)) d) := fun a ha => sh_row rfl htl (fun j hj => hup _ (hsk a ha).1 j hj) (fun h2 => hzt _ h2)
    have hxrow : ∀ j, j < d - 1 → f x j = 0 := fun j hj => by
      have h1 := tot_skip (h := f x) (n := d) (x := d - 1) (by omega)
      have h2 := totI_at (xs := fmap (fun a => f x (skp (d - 1) a)) (d - 1)) (j := j) (k := d - 1) hj (fun i hi => by rw [fmap_nth _ hi]; exact hnn x htl _ (by rw [skp]; split <;> omega))
      rw [fmap_nth _ hj, tot_fmap, show skp (d - 1) j = j by rw [skp, if_pos hj]] at h2
      have h3 := hnn x htl j (by omega)
      omega
    have hsum : sqS (shF f d x) (d - 1) (d - 1) + 1 = sqS f d d := by
      rw [sqS_rows, sqS_rows (f := f)]
      have h1 := tot_skip (h := fun i => totR (fmap (f i) d)) htl
      have h2 : fmap (fun i => totR (fmap (shF f d x i) (d - 1))) (d - 1) = fmap (fun a => totR (fmap (f (skp x a)) d)) (d - 1) := fmap_ext (fun a ha => hrow2 a ha)
      rw [h2]
      omega
    have hm := mk_mx (g := shF f d x) (n := d - 1) hnn2 (fun a ha b hb => by
        rw [hval a b ha (by omega)]
        have hlt : skp x b < skp x a := by rw [skp, skp]; split <;> split <;> omega
        rw [if_neg (fun h => by have := (hsk a ha).1; omega)]
        exact hup _ (hsk a ha).1 _ hlt) (fun a ha => by rw [hrow2 a ha]; exact hr _ (hsk a ha).1) (fun b hb => by
        by_cases hq : skp x b = d - 1
        · have hxd : x < d - 1 := by rw [skp] at hq; split at hq <;> omega
          have hlast : skp x (d - 2) = d - 1 := by rw [skp, if_neg (by omega)]; omega
          refine tot_pos (fun a ha => hnn2 a ha b hb) (j := d - 2) (by omega) ?_
          rw [hval (d - 2) b (by omega) hb, hlast, if_neg (fun h => by omega), hq]
          exact hdd
        · obtain ⟨i, hi, hp⟩ := tot_ex (hc (skp x b) (hsk b hb).1) (fun i hi => hnn i hi _ (hsk b hb).1)
          have hix : i ≠ x := fun e => by
            rw [e, hxrow (skp x b) (by have := (hsk b hb).1; omega)] at hp
            omega
          have hex : ∃ a, a < d - 1 ∧ skp x a = i := by
            by_cases h9 : i < x
            · exact ⟨i, by omega, by rw [skp, if_pos h9]⟩
            · exact ⟨i - 1, by omega, by rw [skp, if_neg (by omega)]; omega⟩
          obtain ⟨a, ha, rfl⟩ := hex
          refine tot_pos (fun a ha => hnn2 a ha b hb) ha ?_
          rw [hval a b ha hb, if_neg (fun h => hq h.2)]
          exact hp) (by omega)
    exact ⟨hm.1, by rw [hm.2]; exact hsum⟩
  · rename_i hS
    have hS1 := hr x htl
    have hrow2 : ∀ a, a < d → a ≠ x → fmap (decF f d x a) d = fmap (f a) d := fun a ha hne => fmap_ext (fun b hb => by rw [decF, if_neg (fun h => hne h.1)])
    have hrx : totR (fmap (decF f d x x) d) + 1 = totR (fmap (f x) d) := by
      have h1 := tot_skip (h := decF f d x x) (n := d) (x := d - 1) (by omega)
      have h2 := tot_skip (h := f x) (n := d) (x := d - 1) (by omega)
      have h3 : fmap (fun a => decF f d x x (skp (d - 1) a)) (d - 1) = fmap (fun a => f x (skp (d - 1) a)) (d - 1) := fmap_ext (fun a ha => by
        rw [decF, if_neg]
        rintro ⟨_, h6⟩
        rw [skp] at h6
        split at h6 <;> omega)
      have h4 : decF f d x x (d - 1) = f x (d - 1) - 1 := by rw [decF, if_pos ⟨rfl, rfl⟩]
      rw [h3, h4] at h1
      omega
    have hnn2 : ∀ a, a < d → ∀ b, b < d → 0 ≤ decF f d x a b := fun a ha b hb => by
      rw [decF]
      split
      · omega
      · exact hnn a ha b hb
    have hsum : sqS (decF f d x) d d + 1 = sqS f d d := by
      rw [sqS_rows, sqS_rows (f := f)]
      have h1 := tot_skip (h := fun i => totR (fmap (f i) d)) htl
      have h2 := tot_skip (h := fun i => totR (fmap (decF f d x i) d)) htl
      have h3 : fmap (fun a => totR (fmap (decF f d x (skp x a)) d)) (d - 1) = fmap (fun a => totR (fmap (f (skp x a)) d)) (d - 1) := fmap_ext (fun a ha => by
        rw [hrow2 (skp x a) (by rw [skp]; split <;> omega) (by rw [skp]; split <;> omega)])
      rw [h3] at h2
      omega
    have hm := mk_mx (g := decF f d x) (n := d) hnn2 (fun a ha b hb => by
        rw [decF]
        by_cases e : a = x ∧ b = d - 1
        · omega
        · rw [if_neg e]; exact hup a ha b hb) (fun a ha => by
        by_cases e : a = x
        · rw [e]; omega
        · rw [hrow2 a ha e]; exact hr a ha) (fun b hb => by
        by_cases hq : b = d - 1
        · subst hq
          by_cases hxd : x = d - 1
          · refine tot_pos (fun a ha => hnn2 a ha _ hb) (j := d - 1) (by omega) ?_
            obtain ⟨j, hj, hp⟩ := tot_ex (h := decF f d x x) (n := d) (by omega) (fun j hj => hnn2 x htl j hj)
            by_cases e : j = d - 1
            · rw [e] at hp; rw [hxd] at hp; rw [hxd]; exact hp
            · have h8 := hup (d - 1) (by omega) j (by omega)
              rw [decF, if_neg (fun h => e h.2), hxd, h8] at hp
              omega
          · refine tot_pos (fun a ha => hnn2 a ha _ hb) (j := d - 1) (by omega) ?_
            rw [decF, if_neg (fun h => hxd h.1.symm)]
            exact hdd
        · have e : fmap (fun i => decF f d x i b) d = fmap (fun i => f i b) d := fmap_ext (fun i hi => by rw [decF, if_neg (fun h => hq h.2)])
          rw [e]
          exact hc b hb) (by omega)
    exact ⟨hm.1, by rw [hm.2]; exact hsum⟩

theorem prs_congr {f g f' g' : Nat → Int} {n : Nat} (h : ∀ k, k < n → f k = f' k ∧ g k = g' k) : prs f g n = prs f' g' n := by
  unfold prs
  refine fmap_ext (fun j hj => ?_)
  have := h (j / 2) (by omega)
  rw [this.1, this.2]
theorem mirVp_ends (xs : List Int) : mirVp (endp xs xs.length) xs.length = prs (fun k => -rtE xs k) (fun k => -lv xs k) xs.length :=
  prs_congr (fun k hk => by rw [endp, prs_rgt _ _ hk, prs_lft _ _ hk]; exact ⟨rfl, rfl⟩)
theorem mir_drB {n : Int} {xs : List Int} (h : isIv n xs = true) : drB (mirVp (endp xs xs.length) xs.length) xs.length n (belows xs xs.length) = true ∧ drOk (mirVp (endp xs xs.length) xs.length) xs.length n (belows xs xs.length) = true := by
  have hor := isIv_ord h
  have hr := (ordB_iff.1 hor).1
  have hp := ord_rel hor
  have h10 : xs.length ≤ 10 := by have := hp.len; have := hp.n1; omega
  have hg : goodV (mirVp (endp xs xs.length) xs.length) xs.length = true := by
    refine goodV_iff.2 ⟨h10, fun k hk => ?_⟩
    have h1 := ends_in h hk
    have h2 := ends_le h hk
    have h3 := sets_len xs
    rw [mirVp_ends, prs_lft _ _ hk, prs_rgt _ _ hk]
    simp [wrongB]
    omega
  have ho : drOk (mirVp (endp xs xs.length) xs.length) xs.length n (belows xs xs.length) = true := by
    rw [drOk, hg, ord_mir hr, hor]; rfl
  refine ⟨?_, ho⟩
  rw [drB, ho, mirVp_ends, mir_rep h]
  simp [eqL]

/-- a block that begins with this cell -/
def Box1 (w : World) (b : Nat) (u : Value) : Prop := b < w.heap.size ∧ w.cell? ⟨b, 0, none⟩ = some u
theorem Box1.below {w w' : World} {b : Nat} {u : Value} (h : Box1 w b u) (hb : Below w.heap.size w w') : Box1 w' b u :=
  ⟨Nat.lt_of_lt_of_le h.1 hb.size, (hb.cell (p := ⟨b, 0, none⟩) h.1).trans h.2⟩
theorem Box1.new (w : World) (u : Value) (t : TypeId) : Box1 (w.alloc (.cells #[u] t)) w.heap.size u := ⟨by simp, by simp⟩
theorem Box1.kept {w w' : World} {b : Nat} {u : Value} {row : Option Nat} (h : Box1 w b u) (hg : w.grownBy w' row) (hne : some b ≠ row) : Box1 w' b u :=
  ⟨Nat.lt_of_lt_of_le h.1 hg.size, hg.cell h.2 hne⟩
theorem Box1.touch {lo hi : Nat} {w w' : World} {b : Nat} {u : Value} (h : Box1 w b u) (ht : TouchS lo hi w w') (hb : b < lo ∨ hi ≤ b) : Box1 w' b u :=
  ⟨Nat.lt_of_lt_of_le h.1 ht.size, (World.cell?_of_block (w := w) (a := ⟨b, 0, none⟩) (ht.block b h.1 hb)).trans h.2⟩
/-- a block that begins with this cell, which may be written -/
def Var1 (w : World) (b : Nat) (u : Value) : Prop := Box1 w b u ∧ w.frozen? ⟨b, 0, none⟩ = false
theorem Var1.new (w : World) (u : Value) (t : TypeId) : Var1 (w.alloc (.cells #[u] t)) w.heap.size u := ⟨Box1.new w u t, by simp⟩
theorem Var1.below {w w' : World} {b : Nat} {u : Value} (h : Var1 w b u) (hb : Below w.heap.size w w') : Var1 w' b u :=
  ⟨h.1.below hb, (hb.frozen (p := ⟨b, 0, none⟩) h.1.1).trans h.2⟩
theorem Var1.alloc {w : World} {b : Nat} {u : Value} (h : Var1 w b u) (o : Obj) : Var1 (w.alloc o) b u := h.below ((Below.refl _ _).alloc (Nat.le_refl _) o)
theorem Var1.kept {w w' : World} {b : Nat} {u : Value} {row : Option Nat} (h : Var1 w b u) (hg : w.grownBy w' row) (hne : some b ≠ row) : Var1 w' b u :=
  ⟨h.1.kept hg hne, (World.frozen?_of_block (w := w) (a := ⟨b, 0, none⟩) (hg.block b h.1.1 hne)).trans h.2⟩
theorem Var1.set {w : World} {b : Nat} {u : Value} (h : Var1 w b u) (x : Value) : Var1 (w.setCell ⟨b, 0, none⟩ x) b x :=
  ⟨⟨by simpa using h.1.1, World.cell?_setCell_same _ _ _ h.1.2⟩, by simpa using h.2⟩
theorem Var1.other {w : World} {b : Nat} {u : Value} (h : Var1 w b u) {p : Addr} (x : Value) (hne : b ≠ p.block) : Var1 (w.setCell p x) b u :=
  h.kept (grown_set w p x) (by simpa using hne)

/-- one row more at the end of rows that have been made -/
theorem push_row {ops : Array Oper} {rest : List Oper} {o : Oper} {a : Act} {Q : Exit → Act → World → Prop} (hgd : o.guard = none) (s x : Operand)
    (ho : o.op = .call { callee := .builtin .append, args := #[s, x], argTypes := #[43, 43] }) {wr : World} {B C n cp : Nat} {ar : Option Addr} {v : Value} {vl : List Value} {xss : List (List Int)} {r : List Int}
    (hs : a.eval s = v) (hro : RowsP wr B v vl xss) (hrow : OwnI wr C (.slice ar n cp) r) (hx : a.eval x = .slice (some ⟨wr.heap.size, 0, none⟩) 1 1) (h63 : xss.length ≤ 1048576) (hBC : B ≤ C) (hC : C ≤ wr.heap.size)
    (hvC : ∀ c, v.ownBlock = some c → c < C) (hrC : ∀ k, k < xss.length → ∀ c, (valAt vl k).ownBlock = some c → c < C)
    (h : ∀ v' w', RowsP w' B v' (vl ++ [.slice ar n cp]) (xss ++ [r]) → wr.grownBy w' v.ownBlock → wpList Tryz.prog ops Q rest (a.put o.dst v') w') :
    wpList Tryz.prog ops Q (o :: rest) a (wr.alloc (.cells #[.slice ar n cp] 24)) := by
  obtain ⟨j0, hj0, hy0, hy1, hy2⟩ := info_parts infoSlice
  have hone := RowsP.one hrow hC
  have b4 : Below wr.heap.size wr (wr.alloc (.cells #[.slice ar n cp] 24)) := (Below.refl _ _).alloc (Nat.le_refl _) _
  have hro4 := hro.below b4 (Nat.le_refl _)
  obtain ⟨av, cv, rfl⟩ := hro.o.form
  refine wpList_append_own_at _ hgd s x 43 ho B 24 j0 (.slice none 0 0) 1 24 Tryz.underlying43 hj0 hy0 hy1 hy2 rfl (by decide) (.slice av xss.length cv) xss.length vl hs hro4.o.own ⟨wr.heap.size, 0, none⟩ 1 1 [.slice ar n cp] hx rfl (cell_one_new _ _ _) (by intro u hu; simp at hu; subst hu; rfl) (by unfold maxLen; omega) (by omega) (by simp; omega) ?_
  intro v' w' ho2 hg _ hat
  exact h v' w' (hro4.cat hone hBC hvC hrC ho2 hg hat) (grown_alloc_set hg)

/-- one number more at the end of a row that is owned -/
theorem push_at {ops : Array Oper} {rest : List Oper} {o : Oper} {a : Act} {Q : Exit → Act → World → Prop} (hgd : o.guard = none) (s x : Operand)
    (ho : o.op = .call { callee := .builtin .append, args := #[s, x], argTypes := #[24, 24] }) {wr : World} {B : Nat} {v : Value} {ys : List Int} {z : Int}
    (hs : a.eval s = v) (hown : OwnI wr B v ys) (hx : a.eval x = .slice (some ⟨wr.heap.size, 0, none⟩) 1 1) (h63 : ys.length ≤ 1048576) (hB : B ≤ wr.heap.size)
    (h : ∀ v' w', OwnI w' B v' (ys ++ [z]) → wr.grownBy w' v.ownBlock → (v'.ownBlock = v.ownBlock ∨ v'.ownBlock = some (wr.heap.size + 1)) → wpList Tryz.prog ops Q rest (a.put o.dst v') w') :
    wpList Tryz.prog ops Q (o :: rest) a (wr.alloc (.cells #[.int .i64 z] 3)) := by
  obtain ⟨i0, hi, hz0, hz1, hz2⟩ := info_parts infoInt
  refine wpList_append_own_at _ hgd s x 24 ho B 3 i0 (.int .i64 0) 1 8 Tryz.underlying24 hi hz0 hz1 hz2 rfl (by decide) v ys.length (ys.map (Value.int .i64)) hs (hown.alloc _) ⟨wr.heap.size, 0, none⟩ 1 1 [.int .i64 z] hx rfl (cell_one_new _ _ _) (by intro u hu; simp at hu; subst hu; rfl) (by unfold maxLen; omega) (by omega) (by simp; omega) ?_
  intro v' w' ho2 hg _ hat
  refine h v' w' ?_ (grown_alloc_set hg) (by simpa using hat)
  unfold OwnI
  rw [List.length_append, List.map_append]
  exact ho2
/-- the same at a step of a region that draws its order; the new number lies somewhere -/
theorem step_push {ops : Array Oper} {o : Oper} {a : Act} {K : Act → World → Prop} {Q : Exit → Act → World → Prop} {E : Prop} (hgd : o.guard = none) (s x : Operand)
    (ho : o.op = .call { callee := .builtin .append, args := #[s, x], argTypes := #[24, 24] }) {W : World} {B g n : Nat} {v : Value} {ys : List Int} {z : Int}
    (hs : a.eval s = v) (hx : a.eval x = .slice (some ⟨g, 0, none⟩) 1 1) (hown : OwnI W B v ys) (hn : ys.length = n) (hz : W.cell? ⟨g, 0, none⟩ = some (.int .i64 z)) (h63 : n ≤ 1048576) (hB : B ≤ W.heap.size)
    (h : ∀ g' cap w', OwnI w' B (.slice (some ⟨g', 0, none⟩) (n + 1) cap) (ys ++ [z]) → W.grownBy w' v.ownBlock → (v.ownBlock = some g' ∨ g' = W.heap.size) → K (a.put o.dst (.slice (some ⟨g', 0, none⟩) (n + 1) cap)) w') :
    if Region.wanted o (yielded ops a.tmps) = true then Oper.wp Tryz.prog o a W K Q else E := by
  subst hn
  obtain ⟨i0, hi, hz0, hz1, hz2⟩ := info_parts infoInt
  refine step_append_lies W hgd s x 24 ho B 3 i0 (.int .i64 0) 1 8 Tryz.underlying24 hi hz0 hz1 hz2 rfl (by decide) v ys.length (ys.map (Value.int .i64)) hs hown ⟨g, 0, none⟩ 1 1 [.int .i64 z] hx rfl ?_ (by intro u hu; simp at hu; subst hu; rfl) (by omega) (by unfold maxLen; omega) (by omega) hB W.heap.size rfl ?_
  · intro j u hj
    obtain ⟨hlt, e⟩ := List.getElem?_eq_some_iff.1 hj
    have h0 : j = 0 := by simpa using hlt
    subst h0
    simp at e
    subst e
    rw [Addr.add_lit]; simpa using hz
  · intro g' cap w' ho2 hg hat _
    refine h g' cap w' ?_ hg hat
    unfold OwnI
    rw [List.length_append, List.map_append]
    exact ho2
theorem news_after {w w3 : World} {x : Int} {m : Nat} (h : Below ((w.drewN m).alloc (.cells #[.int .i64 x] 3)).heap.size ((w.drewN m).alloc (.cells #[.int .i64 x] 3)) w3) : w3.cell? ⟨w.heap.size, 0, none⟩ = some (.int .i64 x) :=
  (h.cell (p := ⟨w.heap.size, 0, none⟩) (show w.heap.size < ((w.drewN m).alloc _).heap.size by rw [World.size_alloc]; exact Nat.lt_succ_of_le (Joins.below_draws w.heap.size w m).size)).trans ((show ∀ W : World, (W.alloc (.cells #[.int .i64 x] 3)).cell? ⟨W.heap.size, 0, none⟩ = some (.int .i64 x) from fun W => by simp) (w.drewN m))
theorem below_after {w w3 : World} {m : Nat} {o : Obj} (h : Below ((w.drewN m).alloc o).heap.size ((w.drewN m).alloc o) w3) : Below w.heap.size w w3 :=
  Below.trans ((Joins.below_draws w.heap.size w m).alloc (Joins.below_draws w.heap.size w m).size _) (h.mono (Nat.le_trans (Joins.below_draws w.heap.size w m).size (by simp)))
theorem below_drew {w w3 : World} {m : Nat} (h : Below (w.drewN m).heap.size (w.drewN m) w3) : Below w.heap.size w w3 :=
  Below.trans (Joins.below_draws w.heap.size w m) (h.mono (Joins.below_draws w.heap.size w m).size)
/-- two values that own no block together -/
def SepV (v u : Value) : Prop := ∀ c, v.ownBlock = some c → u.ownBlock ≠ some c
theorem SepV.symm {v u : Value} (h : SepV v u) : SepV u v := fun c e e2 => h c e2 e
/-- the first of two rows has grown -/
theorem SepV.grow {w : World} {B : Nat} {v v' u : Value} {ys : List Int} {m : Nat} (h : SepV v u) (hu : OwnI w B u ys) (hm : w.heap.size ≤ m) (hat : v'.ownBlock = v.ownBlock ∨ v'.ownBlock = some m) : SepV v' u := by
  intro c e e2
  rcases hat with h1 | h1
  · exact h c (h1 ▸ e) e2
  · rw [h1] at e
    have := (hu.lt c e2).2
    simp only [Option.some.injEq] at e
    omega

theorem RowsP.setBelow {w : World} {B : Nat} {v : Value} {vl : List Value} {xss : List (List Int)} (h : RowsP w B v vl xss) {p : Addr} (hp : p.block < B) (u : Value) : RowsP (w.setCell p u) B v vl xss :=
  ⟨⟨ownsRow_setCell_below h.o.own hp u, fun k hk => (h.o.row k hk).setBelow hp u, h.o.apart⟩, h.pair⟩
theorem sqM_succ (f : Nat → Nat → Int) (n m : Nat) : sqM f (n+1) m = sqM f n m ++ [fmap (f n) m] := by
  simp [sqM, List.range_succ]
/-- a matrix as a result -/
def GotM (e : Ending) (w w' : World) (L : List (List Int)) (b : Bool) : Prop := ∃ a c vl, e = .returned (.tuple #[.agg #[.slice a L.length c], .bool b]) ∧ RowsP w' w.heap.size (.slice a L.length c) vl L ∧ Below w.heap.size w w'
/-- a matrix that may be one -/
theorem mx_eta {xss : List (List Int)} (h : mxB xss = true) : xss = sqM (atM xss) xss.length xss.length := sq_eta (fun i hi => mxB_len h hi)

theorem cs_eta {cs : List Int} {n : Nat} (hl : cs.length = n * 2) : cs = prs (lft cs) (rgt cs) n := by
  refine nths_eq (by rw [prs_len, hl]) (fun k hk => ?_)
  rw [prs_nth _ _ (show k < n * 2 by omega)]
  split
  · rename_i h; rw [lft, show k / 2 * 2 = k by omega]
  · rename_i h; rw [rgt, show k / 2 * 2 + 1 = k by omega]
/-- intervals that meet each number with both ends are the ends of their order -/
theorem canon {cs : List Int} {n : Nat} (hg : goodV cs n = true) (hlo : ∀ j, j < n → 0 ≤ lft cs j)
    (hA : ∀ j, j < n → ∀ v : Int, 0 ≤ v → v < lft cs j → ∃ x, x < n ∧ rgt cs x = v)
    (hB : ∀ j, j < n → ∀ v : Int, 0 ≤ v → v ≤ rgt cs j → ∃ y, y < n ∧ lft cs y = v) :
    ∀ i, i < n → lv (ivo cs n n) i = lft cs i ∧ rtE (ivo cs n n) i = rgt cs i := by
  have hiv := ivo_is hg
  have hxl : (ivo cs n n).length = n := ivo_len _ _ _
  have hwb := (goodV_iff.1 hg).2
  have hlr : ∀ j, j < n → lft cs j ≤ rgt cs j := fun j hj => by have := wrongB_no.1 (hwb j hj); omega
  have hle := ends_least hiv (L := lft cs) (R := rgt cs) (low := 0) (fun i j hi hj => by
    rw [hxl] at hi hj
    rw [ivo_has hi, Bool.and_eq_true, decide_eq_true_eq, decide_eq_true_eq]
    exact ⟨fun h => h.2, fun h => ⟨hj, h⟩⟩) (fun i hi => hlo i (by rw [hxl] at hi; exact hi))
  have hhas : ∀ i j, i < n → j < n → (rgt cs i < lft cs j ↔ rtE (ivo cs n n) i < lv (ivo cs n n) j) := fun i j hi hj => by
    rw [← has_ends hiv (by rw [hxl]; exact hi) (by rw [hxl]; exact hj), ivo_has hi, Bool.and_eq_true, decide_eq_true_eq, decide_eq_true_eq]
    exact ⟨fun h => ⟨hj, h⟩, fun h => h.2⟩
  have key : ∀ (v i : Nat), i < n → lft cs i = (v : Int) → (v : Int) ≤ lv (ivo cs n n) i := by
    intro v
    induction v with
    | zero => intro i hi _; have := (ends_in hiv (k := i) (by rw [hxl]; exact hi)).1.1; omega
    | succ v ih =>
      intro i hi e
      obtain ⟨x, hx, ex⟩ := hA i hi (v : Int) (by omega) (by omega)
      obtain ⟨y, hy, ey⟩ := hB i hi (v : Int) (by omega) (by have := hlr i hi; omega)
      have h1 := (hhas x i hx hi).1 (by omega)
      have h2 : ¬ rtE (ivo cs n n) x < lv (ivo cs n n) y := fun hc => by have := (hhas x y hx hy).2 hc; omega
      have h3 := ih y hy ey
      omega
  have hlv : ∀ i, i < n → lv (ivo cs n n) i = lft cs i := fun i hi => by
    have h1 := (hle i (by rw [hxl]; exact hi)).1
    have h2 := key (lft cs i).toNat i hi (by have := hlo i hi; omega)
    have := hlo i hi
    omega
  intro i hi
  refine ⟨hlv i hi, ?_⟩
  have h1 := (hle i (by rw [hxl]; exact hi)).2
  have h5 := hlr i hi
  have h6 := hlo i hi
  obtain ⟨y, hy, ey⟩ := hB i hi (rgt cs i) (by omega) (Int.le_refl _)
  have h2 : ¬ rtE (ivo cs n n) i < lv (ivo cs n n) y := fun hc => by have := (hhas i y hi hy).2 hc; omega
  have h3 := hlv y hy
  omega
/-- how many of the first m pairs are i and j -/
def cntP (cs : List Int) : Nat → Nat → Nat → Int
  | 0, _, _ => 0
  | m+1, i, j => cntP cs m i j + if lft cs m = (i : Int) ∧ rgt cs m = (j : Int) then 1 else 0
theorem cntP_nn (cs : List Int) (i j : Nat) : ∀ m, 0 ≤ cntP cs m i j
  | 0 => Int.le_refl _
  | m+1 => by have := cntP_nn cs i j m; rw [cntP]; split <;> omega
theorem cntP_ex {cs : List Int} {i j : Nat} : ∀ {m : Nat}, 0 < cntP cs m i j → ∃ k, k < m ∧ lft cs k = (i : Int) ∧ rgt cs k = (j : Int)
  | 0, h => by simp [cntP] at h
  | m+1, h => by
    rw [cntP] at h
    by_cases e : lft cs m = (i : Int) ∧ rgt cs m = (j : Int)
    · exact ⟨m, by omega, e.1, e.2⟩
    · rw [if_neg e] at h
      obtain ⟨k, hk, h2⟩ := cntP_ex (cs := cs) (i := i) (j := j) (m := m) (by omega)
      exact ⟨k, by omega, h2⟩
theorem cntP_cntE {cs xs : List Int} {i j : Nat} : ∀ {m : Nat}, (∀ k, k < m → lv xs k = lft cs k ∧ rtE xs k = rgt cs k) → cntE xs m i j = cntP cs m i j
  | 0, _ => rfl
  | m+1, h => by rw [cntE, cntP, cntP_cntE (fun k hk => h k (by omega)), (h m (by omega)).1, (h m (by omega)).2]
/-- intervals that are counted by a matrix: the ends of their order, whose matrix it is -/
theorem canon_mx {cs : List Int} {n : Nat} {M : List (List Int)} (hM : mxB M = true) (hg : goodV cs n = true) (hl : cs.length = n * 2)
    (hb : ∀ j, j < n → 0 ≤ lft cs j ∧ rgt cs j < (M.length : Int)) (hc : ∀ a b, a < M.length → b < M.length → cntP cs n a b = atM M a b) :
    (∀ i, i < n → lv (ivo cs n n) i = lft cs i ∧ rtE (ivo cs n n) i = rgt cs i) ∧ endp (ivo cs n n) n = cs ∧ (sets (ivo cs n n)).length = M.length ∧ moL (n : Int) (ivo cs n n) = M := by
  have ⟨hr, hcl, hup, _, _⟩ := of_mx hM
  have hwb := (goodV_iff.1 hg).2
  have hlr : ∀ j, j < n → lft cs j ≤ rgt cs j := fun j hj => by have := wrongB_no.1 (hwb j hj); omega
  have hL : ∀ v : Nat, v < M.length → ∃ y, y < n ∧ lft cs y = (v : Int) := fun v hv => by
    obtain ⟨j, hj, hp⟩ := tot_ex (hr v hv) (fun j hj => (mxB_num hM hv hj).1)
    rw [← hc v j hv hj] at hp
    obtain ⟨k, hk, h1, _⟩ := cntP_ex hp
    exact ⟨k, hk, h1⟩
  have hR : ∀ v : Nat, v < M.length → ∃ y, y < n ∧ rgt cs y = (v : Int) := fun v hv => by
    obtain ⟨j, hj, hp⟩ := tot_ex (hcl v hv) (fun j hj => (mxB_num hM hj hv).1)
    rw [← hc j v hj hv] at hp
    obtain ⟨k, hk, _, h1⟩ := cntP_ex hp
    exact ⟨k, hk, h1⟩
  have hcan := canon hg (fun j hj => (hb j hj).1)
    (fun j hj v h0 h1 => by
      have := hb j hj
      have := hlr j hj
      obtain ⟨x, hx, e⟩ := hR v.toNat (by omega)
      exact ⟨x, hx, by omega⟩)
    (fun j hj v h0 h1 => by
      have := hb j hj
      obtain ⟨x, hx, e⟩ := hL v.toNat (by omega)
      exact ⟨x, hx, by omega⟩)
  have hiv := ivo_is hg
  have hxl : (ivo cs n n).length = n := ivo_len _ _ _
  have hD : (sets (ivo cs n n)).length = M.length := by
    apply Nat.le_antisymm
    · apply Nat.le_of_not_lt
      intro hlt
      obtain ⟨j, hj, _, e⟩ := lv_hit hiv (v := M.length) hlt
      rw [hxl] at hj
      rw [(hcan j hj).1] at e
      have := hb j hj
      have := hlr j hj
      omega
    · apply Nat.le_of_not_lt
      intro hlt
      obtain ⟨y, hy, e⟩ := hL _ hlt
      have h2 := (ends_in hiv (k := y) (by rw [hxl]; exact hy)).1.2
      rw [(hcan y hy).1] at h2
      omega
  refine ⟨hcan, ?_, hD, ?_⟩
  · conv => rhs; rw [cs_eta hl]
    exact prs_congr hcan
  · rw [moL, if_pos hiv, hD, hxl]
    conv => rhs; rw [mx_eta hM]
    exact sqM_congr (fun i hi j hj => by rw [cntP_cntE hcan, hc i j hi hj])

theorem sN_up (f : Nat → Nat) {a : Nat} : ∀ {b : Nat}, a ≤ b → sN f a ≤ sN f b
  | 0, h => by obtain rfl : a = 0 := by omega
               exact Nat.le_refl _
  | b+1, h => by
    by_cases e : a = b + 1
    · rw [e]; exact Nat.le_refl _
    · have := sN_up f (a := a) (b := b) (by omega)
      rw [sN]; omega
/-- sums of the first numbers of a row, and of a column -/
def rS (e : Nat → Nat → Nat) (i k : Nat) : Nat := sN (e i) k
def cS (e : Nat → Nat → Nat) (j k : Nat) : Nat := sN (fun i => e i j) k
/-- where the runs of openers begin, and those of closers -/
def oP (e : Nat → Nat → Nat) (d i : Nat) : Nat := sN (fun t => rS e t d + cS e t d) i
def cP (e : Nat → Nat → Nat) (d j : Nat) : Nat := oP e d j + rS e j d
/-- the step at which a sum passes x -/
def fnd (f : Nat → Nat) (n x : Nat) : Nat := sN (fun k => if f (k+1) ≤ x then 1 else 0) n
theorem fnd_at {f : Nat → Nat} {n x k : Nat} (hm : ∀ a b, a ≤ b → f a ≤ f b) (hk : k < n) (h1 : f k ≤ x) (h2 : x < f (k+1)) : fnd f n x = k := by
  have h : ∀ m, sN (fun k => if f (k+1) ≤ x then 1 else 0) m = min m k := by
    intro m
    induction m with
    | zero => simp [sN]
    | succ m ih =>
      rw [sN, ih]
      by_cases e : m < k
      · have := hm (m+1) k (by omega)
        rw [if_pos (by omega)]; omega
      · have := hm (k+1) (m+1) (by omega)
        rw [if_neg (by omega)]; omega
  rw [fnd, h]; omega
theorem fnd_ex {f : Nat → Nat} {x : Nat} (h0 : f 0 ≤ x) : ∀ {n : Nat}, x < f n → ∃ k, k < n ∧ f k ≤ x ∧ x < f (k+1)
  | 0, h => by omega
  | n+1, h => by
    by_cases e : x < f n
    · obtain ⟨k, h1, h2, h3⟩ := fnd_ex h0 e
      exact ⟨k, by omega, h2, h3⟩
    · exact ⟨n, by omega, by omega, h⟩
/-- the partner of a point in the tidy matching of a matrix -/
def tmO (e : Nat → Nat → Nat) (d i x : Nat) : Nat := cP e d (fnd (rS e i) d x) + cS e (fnd (rS e i) d x) i + (x - rS e i (fnd (rS e i) d x))
def tmC (e : Nat → Nat → Nat) (d i x : Nat) : Nat := oP e d (fnd (cS e i) d x) + rS e (fnd (cS e i) d x) i + (x - cS e i (fnd (cS e i) d x))
def tmQ (e : Nat → Nat → Nat) (d i q : Nat) : Nat := if q < cP e d i then tmO e d i (q - oP e d i) else tmC e d i (q - cP e d i)
def tmF (e : Nat → Nat → Nat) (d q : Nat) : Nat := tmQ e d (fnd (oP e d) d q) q
theorem tm_op {e : Nat → Nat → Nat} {d i j t : Nat} (hi : i < d) (hj : j < d) (ht : t < e i j) : tmF e d (oP e d i + rS e i j + t) = cP e d j + cS e j i + t := by
  have h1 : rS e i (j+1) = rS e i j + e i j := rfl
  have h2 : rS e i (j+1) ≤ rS e i d := sN_up _ (by omega)
  have h3 : oP e d (i+1) = oP e d i + (rS e i d + cS e i d) := rfl
  have h4 : fnd (oP e d) d (oP e d i + rS e i j + t) = i := fnd_at (fun a b h => sN_up _ h) hi (by omega) (by omega)
  have h5 : fnd (rS e i) d (rS e i j + t) = j := fnd_at (fun a b h => sN_up _ h) hj (by omega) (by omega)
  rw [tmF, h4, tmQ, if_pos (by rw [cP]; omega), tmO, show oP e d i + rS e i j + t - oP e d i = rS e i j + t by omega, h5]
  omega
theorem tm_cl {e : Nat → Nat → Nat} {d i j t : Nat} (hi : i < d) (hj : j < d) (ht : t < e i j) : tmF e d (cP e d j + cS e j i + t) = oP e d i + rS e i j + t := by
  have h1 : cS e j (i+1) = cS e j i + e i j := rfl
  have h2 : cS e j (i+1) ≤ cS e j d := sN_up _ (by omega)
  have h3 : oP e d (j+1) = oP e d j + (rS e j d + cS e j d) := rfl
  have h6 : cP e d j = oP e d j + rS e j d := rfl
  have h4 : fnd (oP e d) d (cP e d j + cS e j i + t) = j := fnd_at (fun a b h => sN_up _ h) hj (by omega) (by omega)
  have h5 : fnd (cS e j) d (cS e j i + t) = i := fnd_at (fun a b h => sN_up _ h) hi (by omega) (by omega)
  rw [tmF, h4, tmQ, if_neg (by omega), tmC, show cP e d j + cS e j i + t - cP e d j = cS e j i + t by omega, h5]
  omega
theorem tm_of {e : Nat → Nat → Nat} {d q : Nat} (hq : q < oP e d d) : ∃ i j t, i < d ∧ j < d ∧ t < e i j ∧ (q = oP e d i + rS e i j + t ∨ q = cP e d j + cS e j i + t) := by
  obtain ⟨i, hi, h1, h2⟩ := fnd_ex (f := oP e d) (Nat.zero_le _) hq
  have h3 : oP e d (i+1) = oP e d i + (rS e i d + cS e i d) := rfl
  have h6 : cP e d i = oP e d i + rS e i d := rfl
  by_cases hc : q < cP e d i
  · obtain ⟨j, hj, h4, h5⟩ := fnd_ex (f := rS e i) (x := q - oP e d i) (n := d) (Nat.zero_le _) (by omega)
    have h7 : rS e i (j+1) = rS e i j + e i j := rfl
    exact ⟨i, j, q - oP e d i - rS e i j, hi, hj, by omega, .inl (by omega)⟩
  · obtain ⟨j, hj, h4, h5⟩ := fnd_ex (f := cS e i) (x := q - cP e d i) (n := d) (Nat.zero_le _) (by omega)
    have h7 : cS e i (j+1) = cS e i j + e j i := rfl
    exact ⟨j, i, q - cP e d i - cS e i j, hj, hi, by omega, .inr (by omega)⟩
/-- is there nothing below the diagonal? -/
def UpN (e : Nat → Nat → Nat) : Prop := ∀ i j, j < i → e i j = 0
/-- an opener stands ahead of its closer -/
theorem tm_lt {e : Nat → Nat → Nat} {d i j t : Nat} (hu : UpN e) (hi : i < d) (hj : j < d) (ht : t < e i j) : oP e d i + rS e i j + t < cP e d j + cS e j i + t ∧ cP e d j + cS e j i + t < oP e d (j+1) ∧ oP e d i + rS e i j + t < cP e d i := by
  have h1 : rS e i (j+1) = rS e i j + e i j := rfl
  have h2 : rS e i (j+1) ≤ rS e i d := sN_up _ (by omega)
  have h3 : oP e d (i+1) = oP e d i + (rS e i d + cS e i d) := rfl
  have h4 : oP e d (j+1) = oP e d j + (rS e j d + cS e j d) := rfl
  have h6 : cP e d j = oP e d j + rS e j d := rfl
  have h7 : cS e j (i+1) = cS e j i + e i j := rfl
  have h8 : cS e j (i+1) ≤ cS e j d := sN_up _ (by omega)
  have h9 : cP e d i = oP e d i + rS e i d := rfl
  have hij : i ≤ j := by
    apply Classical.byContradiction
    intro hn
    have := hu i j (by omega)
    omega
  refine ⟨?_, by omega, by omega⟩
  by_cases e0 : i = j
  · subst e0; omega
  · have h10 : oP e d (i+1) ≤ oP e d j := sN_up _ (by omega)
    omega
theorem tm_inv {e : Nat → Nat → Nat} {d q : Nat} (hu : UpN e) (hq : q < oP e d d) : tmF e d (tmF e d q) = q ∧ tmF e d q < oP e d d ∧ tmF e d q ≠ q := by
  obtain ⟨i, j, t, hi, hj, ht, h | h⟩ := tm_of hq
  · have h1 := tm_op hi hj ht
    have h2 := tm_cl hi hj ht
    have ⟨h3, h4, h5⟩ := tm_lt hu hi hj ht
    have h6 : oP e d (j+1) ≤ oP e d d := sN_up _ (by omega)
    rw [h, h1, h2]
    exact ⟨rfl, by omega, by omega⟩
  · have h1 := tm_op hi hj ht
    have h2 := tm_cl hi hj ht
    have ⟨h3, h4, h5⟩ := tm_lt hu hi hj ht
    have h6 : oP e d (j+1) ≤ oP e d d := sN_up _ (by omega)
    rw [h, h2, h1]
    exact ⟨rfl, by omega, by omega⟩
/-- an involution without fixed points on N points -/
structure Inv (F : Nat → Nat) (N : Nat) : Prop where
  inv : ∀ q, q < N → F (F q) = q
  lt : ∀ q, q < N → F q < N
  ne : ∀ q, q < N → F q ≠ q
theorem tm_Inv {e : Nat → Nat → Nat} {d : Nat} (hu : UpN e) : Inv (tmF e d) (oP e d d) := ⟨fun q h => (tm_inv hu h).1, fun q h => (tm_inv hu h).2.1, fun q h => (tm_inv hu h).2.2⟩
/-- the points of which arcs with an end before o have been written -/
def p1 (F : Nat → Nat) (o q : Nat) : Int := if q < o ∨ F q < o then (F q : Int) else 0
def P1 (F : Nat → Nat) (N o : Nat) : List Int := fmap (p1 F o) N
theorem P1_len (F : Nat → Nat) (N o : Nat) : (P1 F N o).length = N := fmap_len _ _
theorem P1_step {F : Nat → Nat} {N o : Nat} (h : Inv F N) (ho : o < N) : ((P1 F N o).set o (F o)).set (F o) (o : Int) = P1 F N (o+1) := by
  have h1 : (P1 F N o).set o (F o) = fmap (fun b => if b = o then (F o : Int) else p1 F o b) N := fmap_upd ho (fun b hb => rfl)
  rw [h1]
  refine fmap_upd (h.lt o ho) (fun b hb => ?_)
  have hi := h.inv b hb
  have hio := h.inv o ho
  unfold p1
  by_cases e1 : b = F o
  · subst e1
    rw [if_pos rfl, if_pos (by omega), hio]
  · rw [if_neg e1]
    by_cases e2 : b = o
    · subst e2
      rw [if_pos rfl, if_pos (by omega)]
    · rw [if_neg e2]
      have : F b ≠ o := fun h3 => e1 (by rw [← h3, hi])
      by_cases e3 : b < o ∨ F b < o
      · rw [if_pos e3, if_pos (by omega)]
      · rw [if_neg e3, if_neg (by omega)]
theorem P1_end {F : Nat → Nat} {N : Nat} : P1 F N N = fmap (fun q => (F q : Int)) N := fmap_cong (fun b hb => by rw [p1, if_pos (.inl hb)])
theorem P1_zero {F : Nat → Nat} {N : Nat} : P1 F N 0 = fmap (fun _ => 0) N := fmap_cong (fun b hb => by rw [p1, if_neg (by omega)])
/-- nothing new between two points if all arcs there end behind an opener before -/
theorem P1_skip {F : Nat → Nat} {N o o' : Nat} (h : Inv F N) (hoo : o ≤ o') (ho : o' ≤ N) (hk : ∀ q, o ≤ q → q < o' → F q < o) : P1 F N o = P1 F N o' := fmap_cong (fun b hb => by
  have hi := h.inv b hb
  unfold p1
  by_cases e : b < o ∨ F b < o
  · rw [if_pos e, if_pos (by omega)]
  · rw [if_neg e, if_neg ?_]
    rintro (h1 | h1)
    · have := hk b (by omega) h1; omega
    · have := hk (F b) (by omega) h1
      rw [hi] at this; omega)
/-- the points before L, of which those that have their partner before L have it -/
def p2 (F : Nat → Nat) (L q : Nat) : Int := if F q < L then (F q : Int) else 0
def P2 (F : Nat → Nat) (L : Nat) : List Int := fmap (p2 F L) L
theorem P2_len (F : Nat → Nat) (L : Nat) : (P2 F L).length = L := fmap_len _ _
theorem P2_open {F : Nat → Nat} {N L : Nat} (h : Inv F N) (hL : L < N) (ho : L < F L) : P2 F L ++ [0] = P2 F (L+1) := by
  rw [P2, P2, fmap_succ]
  congr 1
  · refine fmap_cong (fun b hb => ?_)
    have hi := h.inv b (by omega)
    have : F b ≠ L := fun h3 => by rw [h3] at hi; omega
    unfold p2
    by_cases e : F b < L
    · rw [if_pos e, if_pos (by omega)]
    · rw [if_neg e, if_neg (by omega)]
  · rw [p2, if_neg (by omega)]
theorem P2_close {F : Nat → Nat} {N L : Nat} (h : Inv F N) (hL : L < N) (ho : F L < L) : (P2 F L).set (F L) (L : Int) ++ [(F L : Int)] = P2 F (L+1) := by
  have h1 : (P2 F L).set (F L) (L : Int) = fmap (p2 F (L+1)) L := fmap_upd ho (fun b hb => by
    have hi := h.inv b (by omega)
    have hio := h.inv L hL
    unfold p2
    by_cases e1 : b = F L
    · subst e1
      rw [if_pos rfl, if_pos (by omega), hio]
    · rw [if_neg e1]
      have : F b ≠ L := fun h3 => e1 (by rw [← h3, hi])
      by_cases e : F b < L
      · rw [if_pos e, if_pos (by omega)]
      · rw [if_neg e, if_neg (by omega)])
  rw [h1, P2, fmap_succ, p2, if_pos (by omega)]
theorem P2_all {F : Nat → Nat} {N : Nat} (h : Inv F N) : P2 F N = fmap (fun q => (F q : Int)) N := fmap_cong (fun b hb => by rw [p2, if_pos (h.lt b hb)])
/-- the numbers of a matrix -/
def enN (xss : List (List Int)) (i j : Nat) : Nat := if j < i then 0 else (atM xss i j).toNat
theorem en_up (xss : List (List Int)) : UpN (enN xss) := fun i j h => by rw [enN, if_pos h]
theorem en_at {xss : List (List Int)} (h : mxB xss = true) {i j : Nat} (hi : i < xss.length) (hj : j < xss.length) : atM xss i j = (enN xss i j : Int) := by
  have h1 := mxB_num h hi hj
  have h2 := (upB_iff.1 (mxB_iff.1 h).2.1 i hi).2 j
  rw [enN]
  split
  · rename_i h3; rw [h2 h3]; rfl
  · omega
theorem en_row {xss : List (List Int)} (h : mxB xss = true) {i : Nat} (hi : i < xss.length) : ∀ k, k ≤ xss.length → totI (rowL xss i) k = (rS (enN xss) i k : Int)
  | 0, _ => rfl
  | k+1, hk => by
    have h1 := en_at h hi (j := k) (by omega)
    have h2 := en_row h hi k (by omega)
    rw [totI, h2, show nth (rowL xss i) k = atM xss i k from rfl, h1, rS, rS, sN]
    omega
theorem en_col {xss : List (List Int)} (h : mxB xss = true) {j : Nat} (hj : j < xss.length) : ∀ k, k ≤ xss.length → totI (colL xss j) k = (cS (enN xss) j k : Int)
  | 0, _ => rfl
  | k+1, hk => by
    have h1 := en_at h (i := k) (by omega) hj
    have h2 := en_col h hj k (by omega)
    rw [totI, h2, colL_nth j (by omega), h1, cS, cS, sN]
    omega
theorem en_totR {xss : List (List Int)} (h : mxB xss = true) {i : Nat} (hi : i < xss.length) : totR (rowL xss i) = (rS (enN xss) i xss.length : Int) := by
  rw [totR, mxB_len h hi, en_row h hi _ (Nat.le_refl _)]
theorem en_totC {xss : List (List Int)} (h : mxB xss = true) {j : Nat} (hj : j < xss.length) : totR (colL xss j) = (cS (enN xss) j xss.length : Int) := by
  rw [totR, colL_len, en_col h hj _ (Nat.le_refl _)]
theorem en_sum {xss : List (List Int)} (h : mxB xss = true) : ∀ k, k ≤ xss.length → matS xss k = (sN (fun t => rS (enN xss) t xss.length) k : Int)
  | 0, _ => rfl
  | k+1, hk => by
    rw [matS, en_sum h k (by omega), en_totR h (by omega), sN]; omega
theorem en_two {xss : List (List Int)} (h : mxB xss = true) : (oP (enN xss) xss.length xss.length : Int) = 2 * matS xss xss.length ∧ oP (enN xss) xss.length xss.length ≤ 24 := by
  have h1 := en_sum h xss.length (Nat.le_refl _)
  have h2 : sN (fun t => cS (enN xss) t xss.length) xss.length = sN (fun t => rS (enN xss) t xss.length) xss.length := by
    have := sN_swap (fun i j => enN xss i j) xss.length xss.length
    exact this.symm
  have h3 : oP (enN xss) xss.length xss.length = sN (fun t => rS (enN xss) t xss.length) xss.length + sN (fun t => cS (enN xss) t xss.length) xss.length := sN_add _ _ _
  have h4 := (adB_iff.1 (mxB_iff.1 h).1).2
  omega
def tmL (xss : List (List Int)) : List Int := if mxB xss then fmap (fun q => (tmF (enN xss) xss.length q : Int)) (oP (enN xss) xss.length xss.length) else []
theorem tmL_len (xss : List (List Int)) : (tmL xss).length ≤ 1048576 := by
  unfold tmL
  split
  · rename_i h; have := (en_two h).2; rw [fmap_len]; omega
  · simp

def opT (e : Nat → Nat → Nat) (d i x : Nat) : List Int := fmap (fun b => ((if b < i then cP e d b else if b = i then x else oP e d b : Nat) : Int)) d
def clT (e : Nat → Nat → Nat) (d i j t : Nat) : List Int := fmap (fun b => ((cP e d b + (if b < j then cS e b (i+1) else if b = j then cS e b i + t else cS e b i) : Nat) : Int)) d
theorem opT_len (e : Nat → Nat → Nat) (d i x : Nat) : (opT e d i x).length = d := fmap_len _ _
theorem clT_len (e : Nat → Nat → Nat) (d i j t : Nat) : (clT e d i j t).length = d := fmap_len _ _
theorem opT_zero (e : Nat → Nat → Nat) (d : Nat) : fmap (fun i => (oP e d i : Int)) d = opT e d 0 (oP e d 0) := fmap_cong (fun b hb => by
  by_cases h : b = 0
  · subst h; simp
  · rw [if_neg (by omega), if_neg h])
theorem clT_zero (e : Nat → Nat → Nat) (d : Nat) : fmap (fun i => (cP e d i : Int)) d = clT e d 0 0 0 := fmap_cong (fun b hb => by
  rw [if_neg (by omega)]
  split <;> simp [cS, sN])
theorem opT_at (e : Nat → Nat → Nat) {d i : Nat} (x : Nat) (h : i < d) : nth (opT e d i x) i = (x : Int) := by
  rw [opT, fmap_nth _ h, if_neg (by omega), if_pos rfl]
theorem opT_set (e : Nat → Nat → Nat) {d i : Nat} (x y : Nat) (h : i < d) : (opT e d i x).set i (y : Int) = opT e d i y := fmap_upd h (fun b hb => by
  by_cases h1 : b = i
  · subst h1; rw [if_pos rfl, if_neg (by omega), if_pos rfl]
  · rw [if_neg h1, if_neg h1, if_neg h1])
theorem opT_next (e : Nat → Nat → Nat) (d i : Nat) : opT e d i (cP e d i) = opT e d (i+1) (oP e d (i+1)) := fmap_cong (fun b hb => by
  by_cases h1 : b < i
  · rw [if_pos h1, if_pos (by omega)]
  · rw [if_neg h1]
    by_cases h2 : b = i
    · subst h2; rw [if_pos rfl, if_pos (by omega)]
    · rw [if_neg h2, if_neg (by omega)]
      by_cases h3 : b = i + 1
      · subst h3; rw [if_pos rfl]
      · rw [if_neg h3])
theorem clT_at (e : Nat → Nat → Nat) {d i j : Nat} (t : Nat) (h : j < d) : nth (clT e d i j t) j = ((cP e d j + cS e j i + t : Nat) : Int) := by
  rw [clT, fmap_nth _ h, if_neg (by omega), if_pos rfl, Nat.add_assoc]
theorem clT_set (e : Nat → Nat → Nat) {d i j : Nat} (t y : Nat) (h : j < d) (hy : y = cP e d j + cS e j i + (t+1)) : (clT e d i j t).set j (y : Int) = clT e d i j (t+1) := fmap_upd h (fun b hb => by
  by_cases h1 : b = j
  · subst h1; rw [if_pos rfl, if_neg (by omega), if_pos rfl, hy, Nat.add_assoc]
  · rw [if_neg h1, if_neg h1, if_neg h1])
theorem clT_nextj (e : Nat → Nat → Nat) (d i j : Nat) : clT e d i j (e i j) = clT e d i (j+1) 0 := fmap_cong (fun b hb => by
  by_cases h1 : b < j
  · rw [if_pos h1, if_pos (by omega)]
  · rw [if_neg h1]
    by_cases h2 : b = j
    · subst h2; rw [if_pos rfl, if_pos (by omega)]; rfl
    · rw [if_neg h2, if_neg (by omega)]
      split <;> rfl)
theorem clT_nexti (e : Nat → Nat → Nat) (d i : Nat) : clT e d i d 0 = clT e d (i+1) 0 0 := fmap_cong (fun b hb => by
  rw [if_pos hb, if_neg (by omega)]
  split <;> rfl)
theorem tm_blk {e : Nat → Nat → Nat} {d q i i' : Nat} (h1 : oP e d i ≤ q) (h2 : q < oP e d (i+1)) (h3 : oP e d i' ≤ q) (h4 : q < oP e d (i'+1)) : i = i' := by
  apply Classical.byContradiction
  intro hn
  rcases Nat.lt_or_gt_of_ne hn with h | h
  · have : oP e d (i+1) ≤ oP e d i' := sN_up _ (by omega)
    omega
  · have : oP e d (i'+1) ≤ oP e d i := sN_up _ (by omega)
    omega
theorem tm_row {e : Nat → Nat → Nat} {d i : Nat} (hu : UpN e) (hi : i < d) : P1 (tmF e d) (oP e d d) (cP e d i) = P1 (tmF e d) (oP e d d) (oP e d (i+1)) := by
  have h3 : oP e d (i+1) = oP e d i + (rS e i d + cS e i d) := rfl
  have h6 : cP e d i = oP e d i + rS e i d := rfl
  have h7 : oP e d (i+1) ≤ oP e d d := sN_up _ (by omega)
  refine P1_skip (tm_Inv hu) (by omega) h7 (fun q h1 h2 => ?_)
  obtain ⟨i', j, t, hi', hj, ht, h | h⟩ := tm_of (e := e) (d := d) (q := q) (by omega)
  · have ⟨_, _, h5⟩ := tm_lt hu hi' hj ht
    have h8 : oP e d (i'+1) = oP e d i' + (rS e i' d + cS e i' d) := rfl
    have h9 : cP e d i' = oP e d i' + rS e i' d := rfl
    have := tm_blk (e := e) (d := d) (q := q) (i := i) (i' := i') (by omega) (by omega) (by omega) (by omega)
    subst this
    omega
  · have ⟨h10, h4, h5⟩ := tm_lt hu hi' hj ht
    have h9 : cP e d j = oP e d j + rS e j d := rfl
    have := tm_blk (e := e) (d := d) (q := q) (i := i) (i' := j) (by omega) (by omega) (by omega) (by omega)
    subst this
    have h11 := tm_cl hi' hj ht
    rw [h, h11]
    by_cases hii : i' = i
    · subst hii; omega
    · have hij : i' < i := by
        apply Classical.byContradiction
        intro hn
        have := hu i' i (by omega)
        omega
      have h12 : oP e d (i'+1) ≤ oP e d i := sN_up _ (by omega)
      have h13 : oP e d (i'+1) = oP e d i' + (rS e i' d + cS e i' d) := rfl
      have h14 : cP e d i' = oP e d i' + rS e i' d := rfl
      omega
/-- three rows of numbers, each in a block of its own -/
structure St3 (W0 W : World) (B g g1 g2 N d c c1 c2 : Nat) (ps os cs : List Int) : Prop where
  o : OwnI W B (.slice (some ⟨g, 0, none⟩) N c) ps
  o1 : OwnI W B (.slice (some ⟨g1, 0, none⟩) d c1) os
  o2 : OwnI W B (.slice (some ⟨g2, 0, none⟩) d c2) cs
  lp : ps.length = N
  l1 : os.length = d
  l2 : cs.length = d
  n1 : g ≠ g1
  n2 : g ≠ g2
  n3 : g1 ≠ g2
  lo : B ≤ g
  lo1 : B ≤ g1
  lo2 : B ≤ g2
  b : Below B W0 W
theorem own_b {g h : Nat} {n c : Nat} (hne : g ≠ h) : (Value.slice (some ⟨g, 0, none⟩) n c).ownBlock = none ∨ (Value.slice (some ⟨g, 0, none⟩) n c).ownBlock ≠ some h := by
  refine .inr (fun e => hne ?_)
  simpa [Value.ownBlock] using e
theorem St3.putP {W0 W : World} {B g g1 g2 N d c c1 c2 : Nat} {ps os cs : List Int} (h : St3 W0 W B g g1 g2 N d c c1 c2 ps os cs) (i : Nat) (x : Int) : St3 W0 (W.setCell ⟨g, i, none⟩ (.int .i64 x)) B g g1 g2 N d c c1 c2 (ps.set i x) os cs := by
  have hp := h.o.put h.lp.symm i x
  exact ⟨hp.1, h.o1.kept hp.2 (own_b h.n1.symm), h.o2.kept hp.2 (own_b h.n2.symm), by rw [List.length_set]; exact h.lp, h.l1, h.l2, h.n1, h.n2, h.n3, h.lo, h.lo1, h.lo2, h.b.setCell (p := ⟨g, i, none⟩) h.lo _⟩
theorem St3.put1 {W0 W : World} {B g g1 g2 N d c c1 c2 : Nat} {ps os cs : List Int} (h : St3 W0 W B g g1 g2 N d c c1 c2 ps os cs) (i : Nat) (x : Int) : St3 W0 (W.setCell ⟨g1, i, none⟩ (.int .i64 x)) B g g1 g2 N d c c1 c2 ps (os.set i x) cs := by
  have hp := h.o1.put h.l1.symm i x
  exact ⟨h.o.kept hp.2 (own_b h.n1), hp.1, h.o2.kept hp.2 (own_b h.n3.symm), h.lp, by rw [List.length_set]; exact h.l1, h.l2, h.n1, h.n2, h.n3, h.lo, h.lo1, h.lo2, h.b.setCell (p := ⟨g1, i, none⟩) h.lo1 _⟩
theorem St3.put2 {W0 W : World} {B g g1 g2 N d c c1 c2 : Nat} {ps os cs : List Int} (h : St3 W0 W B g g1 g2 N d c c1 c2 ps os cs) (i : Nat) (x : Int) : St3 W0 (W.setCell ⟨g2, i, none⟩ (.int .i64 x)) B g g1 g2 N d c c1 c2 ps os (cs.set i x) := by
  have hp := h.o2.put h.l2.symm i x
  exact ⟨h.o.kept hp.2 (own_b h.n2), h.o1.kept hp.2 (own_b h.n3), hp.1, h.lp, h.l1, by rw [List.length_set]; exact h.l2, h.n1, h.n2, h.n3, h.lo, h.lo1, h.lo2, h.b.setCell (p := ⟨g2, i, none⟩) h.lo2 _⟩
theorem St3.at1 {W0 W : World} {B g g1 g2 N d c c1 c2 : Nat} {ps os cs : List Int} (h : St3 W0 W B g g1 g2 N d c c1 c2 ps os cs) {i : Nat} (hi : i < d) : W.cell? ⟨g1, i, none⟩ = some (.int .i64 (nth os i)) ∧ W.frozen? ⟨g1, i, none⟩ = false := h.o1.at' h.l1.symm (by rw [h.l1]; exact hi)
theorem St3.at2 {W0 W : World} {B g g1 g2 N d c c1 c2 : Nat} {ps os cs : List Int} (h : St3 W0 W B g g1 g2 N d c c1 c2 ps os cs) {i : Nat} (hi : i < d) : W.cell? ⟨g2, i, none⟩ = some (.int .i64 (nth cs i)) ∧ W.frozen? ⟨g2, i, none⟩ = false := h.o2.at' h.l2.symm (by rw [h.l2]; exact hi)
theorem St3.atP {W0 W : World} {B g g1 g2 N d c c1 c2 : Nat} {ps os cs : List Int} (h : St3 W0 W B g g1 g2 N d c c1 c2 ps os cs) {i : Nat} (hi : i < N) : W.cell? ⟨g, i, none⟩ = some (.int .i64 (nth ps i)) ∧ W.frozen? ⟨g, i, none⟩ = false := h.o.at' h.lp.symm (by rw [h.lp]; exact hi)
theorem St3.drew {W0 W : World} {B g g1 g2 N d c c1 c2 : Nat} {ps os cs : List Int} (h : St3 W0 W B g g1 g2 N d c c1 c2 ps os cs) : St3 W0 W.drew B g g1 g2 N d c c1 c2 ps os cs :=
  ⟨h.o.below ((Below.refl _ _).drew) (Nat.le_refl _), h.o1.below ((Below.refl _ _).drew) (Nat.le_refl _), h.o2.below ((Below.refl _ _).drew) (Nat.le_refl _), h.lp, h.l1, h.l2, h.n1, h.n2, h.n3, h.lo, h.lo1, h.lo2, h.b.drew⟩

theorem tm_back {e : Nat → Nat → Nat} {d i q : Nat} (hu : UpN e) (hi : i < d) (h1 : cP e d i ≤ q) (h2 : q < oP e d (i+1)) : tmF e d q < cP e d i := by
  have h3 : oP e d (i+1) = oP e d i + (rS e i d + cS e i d) := rfl
  have h6 : cP e d i = oP e d i + rS e i d := rfl
  have h7 : oP e d (i+1) ≤ oP e d d := sN_up _ (by omega)
  obtain ⟨i', j, t, hi', hj, ht, h | h⟩ := tm_of (e := e) (d := d) (q := q) (by omega)
  · have ⟨_, _, h5⟩ := tm_lt hu hi' hj ht
    have h8 : oP e d (i'+1) = oP e d i' + (rS e i' d + cS e i' d) := rfl
    have h9 : cP e d i' = oP e d i' + rS e i' d := rfl
    have := tm_blk (e := e) (d := d) (q := q) (i := i) (i' := i') (by omega) (by omega) (by omega) (by omega)
    subst this
    omega
  · have ⟨h10, h4, h5⟩ := tm_lt hu hi' hj ht
    have h9 : cP e d j = oP e d j + rS e j d := rfl
    have := tm_blk (e := e) (d := d) (q := q) (i := i) (i' := j) (by omega) (by omega) (by omega) (by omega)
    subst this
    have h11 := tm_cl hi' hj ht
    rw [h, h11]
    by_cases hii : i' = i
    · subst hii; omega
    · have hij : i' < i := by
        apply Classical.byContradiction
        intro hn
        have := hu i' i (by omega)
        omega
      have h12 : oP e d (i'+1) ≤ oP e d i := sN_up _ (by omega)
      have h13 : oP e d (i'+1) = oP e d i' + (rS e i' d + cS e i' d) := rfl
      have h14 : cP e d i' = oP e d i' + rS e i' d := rfl
      omega

/-- the last number of an owned row -/
theorem own_snoc {w : World} {B : Nat} {v : Value} {ys : List Int} {z : Int} (h : OwnI w B v (ys ++ [z])) : ∃ g c, v = .slice (some ⟨g, 0, none⟩) (ys.length + 1) c ∧ B ≤ g ∧ g < w.heap.size ∧ w.cell? ⟨g, ys.length, none⟩ = some (.int .i64 z) ∧ w.frozen? ⟨g, ys.length, none⟩ = false ∧ ∀ x, OwnI (w.setCell ⟨g, ys.length, none⟩ (.int .i64 x)) B v (ys ++ [x]) := by
  obtain ⟨a, c, rfl⟩ := h.form
  obtain ⟨g, rfl, h0, h1⟩ := h.head (by simp)
  have hl : (ys ++ [z]).length = ys.length + 1 := by simp
  rw [hl] at h ⊢
  have ⟨c0, f0⟩ := h.at' hl.symm (i := ys.length) (by omega)
  refine ⟨g, c, rfl, h0, h1, ?_, f0, fun x => ?_⟩
  · rw [c0]; simp [nth, List.getD_eq_getElem?_getD]
  · have := (h.put hl.symm ys.length x).1
    have e : (ys ++ [z]).set ys.length x = ys ++ [x] := by simp
    rw [e] at this
    exact this

/-- the number of the run of the point k -/
def rnN (xs : List Int) : Nat → Nat
  | 0 => 0
  | k+1 => if smB xs k then rnN xs k else rnN xs k + 1
theorem rnN_le (xs : List Int) : ∀ k, rnN xs k ≤ k
  | 0 => Nat.le_refl _
  | k+1 => by have := rnN_le xs k; rw [rnN]; split <;> omega
def rlB (xs : List Int) (k : Nat) : Bool := decide (0 < k) && smB xs (k-1)
/-- the lengths of the runs of the first k points -/
def rlTo (xs : List Int) : Nat → List Int
  | 0 => []
  | k+1 => if rlB xs k then (rlTo xs k).set ((rlTo xs k).length - 1) (nth (rlTo xs k) ((rlTo xs k).length - 1) + 1) else rlTo xs k ++ [1]
theorem rlTo_len (xs : List Int) : ∀ k, (rlTo xs (k+1)).length = rnN xs k + 1
  | 0 => by simp [rlTo, rlB, rnN]
  | k+1 => by
    have ih := rlTo_len xs k
    rw [rlTo, rnN]
    cases h : smB xs k
    · simp [rlB, h, ih]
    · simp [rlB, h, ih]
theorem rlTo_le (xs : List Int) : ∀ k, (rlTo xs k).length ≤ k
  | 0 => by simp [rlTo]
  | k+1 => by rw [rlTo_len]; have := rnN_le xs k; omega
theorem rlTo_val (xs : List Int) : ∀ k, ∀ j, j < (rlTo xs k).length → 1 ≤ nth (rlTo xs k) j ∧ nth (rlTo xs k) j ≤ (k : Int)
  | 0, j, h => by simp [rlTo] at h
  | k+1, j, h => by
    have ih := rlTo_val xs k
    rw [rlTo] at h ⊢
    split at h
    · rename_i hb
      rw [if_pos hb]
      have hp : 0 < (rlTo xs k).length := by rw [List.length_set] at h; omega
      rw [List.length_set] at h
      rw [nth_set (by omega)]
      have h1 := ih ((rlTo xs k).length - 1) (by omega)
      have h2 := ih j h
      split <;> omega
    · rename_i hb
      rw [if_neg hb]
      simp at h
      by_cases e : j < (rlTo xs k).length
      · have : nth (rlTo xs k ++ [1]) j = nth (rlTo xs k) j := by simp only [nth, List.getD_eq_getElem?_getD]; rw [List.getElem?_append_left e]
        rw [this]
        have := ih j e; omega
      · obtain rfl : j = (rlTo xs k).length := by omega
        have : nth (rlTo xs k ++ [1]) (rlTo xs k).length = 1 := by simp [nth, List.getD_eq_getElem?_getD]
        rw [this]; omega
def rlL (xs : List Int) : List Int := if mcB xs then rlTo xs xs.length else []
theorem rlL_len (xs : List Int) : (rlL xs).length ≤ 1048576 := by
  unfold rlL
  split
  · rename_i h; have := mcB_len h; have := rlTo_le xs xs.length; omega
  · simp

theorem rnN_mono (xs : List Int) {a : Nat} : ∀ {b : Nat}, a ≤ b → rnN xs a ≤ rnN xs b
  | 0, h => by obtain rfl : a = 0 := by omega
               exact Nat.le_refl _
  | b+1, h => by
    by_cases e : a = b + 1
    · rw [e]; exact Nat.le_refl _
    · have := rnN_mono xs (a := a) (b := b) (by omega)
      rw [rnN]; split <;> omega
/-- runs of openers have even numbers -/
theorem rnN_par {xs : List Int} (h0 : opB xs 0 = true) : ∀ k, opB xs k = decide (rnN xs k % 2 = 0)
  | 0 => by rw [h0]; rfl
  | k+1 => by
    have ih := rnN_par h0 k
    rw [rnN]
    cases hs : smB xs k
    · simp only [Bool.false_eq_true, if_false]
      have h1 : opB xs (k+1) = !opB xs k := by
        have h2 : (opB xs k == opB xs (k+1)) = false := hs
        cases ha : opB xs k <;> cases hb : opB xs (k+1) <;> simp_all
      rw [h1, ih]
      by_cases h3 : rnN xs k % 2 = 0
      · have h4 : ¬ (rnN xs k + 1) % 2 = 0 := by omega
        simp [h3, h4]
      · have h4 : (rnN xs k + 1) % 2 = 0 := by omega
        simp [h3, h4]
    · simp only [if_true]
      have h2 : (opB xs k == opB xs (k+1)) = true := hs
      rw [← ih]
      exact (by simpa using h2 : opB xs k = opB xs (k+1)).symm
theorem op_first {xs : List Int} (h : mcB xs = true) (h0 : 0 < xs.length) : opB xs 0 = true := by
  obtain ⟨j, hj, e, _, hne⟩ := mcB_at h h0
  rw [opB, decide_eq_true_eq, e]; omega
theorem op_last {xs : List Int} (h : mcB xs = true) (h0 : 0 < xs.length) : opB xs (xs.length - 1) = false := by
  obtain ⟨j, hj, e, _, hne⟩ := mcB_at h (k := xs.length - 1) (by omega)
  rw [opB, decide_eq_false_iff_not, e]; omega
/-- half of the number of the runs -/
def mtD (xs : List Int) : Nat := (rlTo xs xs.length).length / 2
theorem mtD_two {xs : List Int} (h : mcB xs = true) : (rlTo xs xs.length).length = 2 * mtD xs ∧ (0 < xs.length → rnN xs (xs.length - 1) + 1 = 2 * mtD xs) := by
  by_cases h0 : 0 < xs.length
  · obtain ⟨n, hn⟩ : ∃ n, xs.length = n + 1 := ⟨xs.length - 1, by omega⟩
    have h1 := op_last h h0
    rw [rnN_par (op_first h h0), decide_eq_false_iff_not] at h1
    have h2 := rlTo_len xs n
    rw [← hn] at h2
    rw [show xs.length - 1 = n by omega] at h1 ⊢
    unfold mtD
    refine ⟨by omega, fun _ => by omega⟩
  · have : xs.length = 0 := by omega
    unfold mtD
    rw [this]
    exact ⟨by simp [rlTo], fun h => absurd h (by omega)⟩
theorem mtD_le {xs : List Int} (h : mcB xs = true) : mtD xs ≤ 12 := by
  have h1 := (mtD_two h).1
  have h2 := rlTo_le xs xs.length
  have h3 := mcB_len h
  omega
theorem rn_lt {xs : List Int} (h : mcB xs = true) {k : Nat} (hk : k < xs.length) : rnN xs k / 2 < mtD xs := by
  have h1 := (mtD_two h).2 (by omega)
  have h2 := rnN_mono xs (a := k) (b := xs.length - 1) (by omega)
  omega
/-- where the arc t opens and where it closes -/
def lkN (xs : List Int) (t : Nat) : Nat := (lft (acV xs xs.length) t).toNat
def rkN (xs : List Int) (t : Nat) : Nat := (rgt (acV xs xs.length) t).toNat
theorem arc_at {xs : List Int} (h : mcB xs = true) {t : Nat} (ht : t < acN xs xs.length) : lft (acV xs xs.length) t = (lkN xs t : Int) ∧ rgt (acV xs xs.length) t = (rkN xs t : Int) ∧ lkN xs t < rkN xs t ∧ rkN xs t < xs.length ∧ opB xs (lkN xs t) = true ∧ opB xs (rkN xs t) = false ∧ acN xs (lkN xs t) = t := by
  obtain ⟨k, k1, k2, k3, k4, k5⟩ := ac_at xs _ t ht
  obtain ⟨p, p1, p2, p3, p4⟩ := mcB_at h k1
  have e1 : lkN xs t = k := by rw [lkN, k3]; omega
  have e2 : rkN xs t = p := by rw [rkN, k4, p2]; omega
  have k2' := k2
  rw [opB, decide_eq_true_eq, p2] at k2'
  rw [e1, e2, k3, k4, p2]
  refine ⟨rfl, rfl, by omega, p1, k2, ?_, k5⟩
  rw [opB, decide_eq_false_iff_not, p3]; omega
def mtE (xs : List Int) (T i j : Nat) : Nat := sN (fun t => if rnN xs (lkN xs t) / 2 = i ∧ rnN xs (rkN xs t) / 2 = j then 1 else 0) T
def mtI (xs : List Int) (T i j : Nat) : Int := (mtE xs T i j : Int)
theorem mtE_le (xs : List Int) (T i j : Nat) : mtE xs T i j ≤ T := by
  have := sN_le (f := fun t => if rnN xs (lkN xs t) / 2 = i ∧ rnN xs (rkN xs t) / 2 = j then 1 else 0) (c := 1) (n := T) (fun i _ => by split <;> omega)
  unfold mtE; omega
theorem mtE_succ (xs : List Int) (T i j : Nat) : mtE xs (T+1) i j = mtE xs T i j + if rnN xs (lkN xs T) / 2 = i ∧ rnN xs (rkN xs T) / 2 = j then 1 else 0 := rfl
theorem mt_row {xs : List Int} {T i D : Nat} (hi : rnN xs (lkN xs T) / 2 = i) (hj : rnN xs (rkN xs T) / 2 < D) : (fmap (mtI xs T i) D).set (rnN xs (rkN xs T) / 2) (mtI xs T i (rnN xs (rkN xs T) / 2) + 1) = fmap (mtI xs (T+1) i) D := fmap_upd hj (fun b hb => by
  unfold mtI
  rw [mtE_succ]
  by_cases e : b = rnN xs (rkN xs T) / 2
  · rw [if_pos e, if_pos ⟨hi, e.symm⟩, e]; omega
  · rw [if_neg e, if_neg (fun h => e h.2.symm)]; omega)
theorem mt_norow {xs : List Int} {T i D : Nat} (hi : ¬ rnN xs (lkN xs T) / 2 = i) : fmap (mtI xs T i) D = fmap (mtI xs (T+1) i) D := fmap_cong (fun b hb => by
  unfold mtI
  rw [mtE_succ, if_neg (fun h => hi h.1)]; omega)
theorem mt_set {xs : List Int} {T D : Nat} (hi : rnN xs (lkN xs T) / 2 < D) (hj : rnN xs (rkN xs T) / 2 < D) : setM (sqM (mtI xs T) D D) (rnN xs (lkN xs T) / 2) (rnN xs (rkN xs T) / 2) (mtI xs T (rnN xs (lkN xs T) / 2) (rnN xs (rkN xs T) / 2) + 1) = sqM (mtI xs (T+1)) D D := by
  rw [setM_sq hi hj]
  refine sqM_congr (fun i _ j _ => ?_)
  unfold mtI
  rw [mtE_succ]
  by_cases e : i = rnN xs (lkN xs T) / 2 ∧ j = rnN xs (rkN xs T) / 2
  · rw [if_pos e, if_pos ⟨e.1.symm, e.2.symm⟩, e.1, e.2]; omega
  · rw [if_neg e, if_neg (fun h => e ⟨h.1.symm, h.2.symm⟩)]; omega
def mtmL (xs : List Int) : List (List Int) := if mcB xs then sqM (mtI xs (acN xs xs.length)) (mtD xs) (mtD xs) else []
theorem mtI_zero (xs : List Int) : mtI xs 0 = fun _ _ => 0 := by funext i j; rfl
/-- the sum of the lengths of the runs before r is where the run r begins -/
theorem mono_cnt {g : Nat → Nat} (hm : ∀ a b, a ≤ b → g a ≤ g b) (r : Nat) : ∀ n k, k < n → (k < sN (fun k => if g k < r then 1 else 0) n ↔ g k < r)
  | 0, k, h => by omega
  | n+1, k, h => by
    have hle : sN (fun k => if g k < r then 1 else 0) n ≤ n := by
      have := sN_le (f := fun k => if g k < r then 1 else 0) (c := 1) (n := n) (fun i _ => by split <;> omega)
      omega
    rw [sN]
    by_cases e : k < n
    · have ih := mono_cnt hm r n k e
      by_cases hn : g n < r
      · rw [if_pos hn]
        have hk : g k < r := Nat.lt_of_le_of_lt (hm k n (by omega)) hn
        have := ih.2 hk
        constructor <;> intro _
        · exact hk
        · omega
      · rw [if_neg hn]; exact ih
    · obtain rfl : k = n := by omega
      by_cases hn : g k < r
      · rw [if_pos hn]
        constructor <;> intro _
        · exact hn
        · have : sN (fun k => if g k < r then 1 else 0) k = k := by
            rw [sN_cong (g := fun _ => 1) (fun i hi => if_pos (Nat.lt_of_le_of_lt (hm i k (by omega)) hn)), sN_const]; omega
          omega
      · rw [if_neg hn]
        constructor <;> intro h2
        · omega
        · exact absurd h2 hn
/-- the number of points of a run, and of the runs before -/
def rcN (xs : List Int) (n r : Nat) : Nat := sN (fun k => if rnN xs k = r then 1 else 0) n
def rbN (xs : List Int) (n r : Nat) : Nat := sN (fun k => if rnN xs k < r then 1 else 0) n
theorem rbN_succ (xs : List Int) (n r : Nat) : rbN xs n (r+1) = rbN xs n r + rcN xs n r := by
  unfold rbN rcN
  rw [← sN_add]
  apply sN_cong
  intro i _
  by_cases h1 : rnN xs i < r
  · rw [if_pos h1, if_pos (by omega), if_neg (by omega)]
  · rw [if_neg h1]
    by_cases h2 : rnN xs i = r
    · rw [if_pos h2, if_pos (by omega)]
    · rw [if_neg h2, if_neg (by omega)]
theorem rcN_high {xs : List Int} {n r : Nat} (h : ∀ k, k < n → rnN xs k < r) : rcN xs n r = 0 := sN_zero (fun k hk => if_neg (by have := h k hk; omega))
theorem rlTo_cnt (xs : List Int) : ∀ n r, r < (rlTo xs n).length → nth (rlTo xs n) r = (rcN xs n r : Int)
  | 0, r, h => by simp [rlTo] at h
  | n+1, r, h => by
    have ih := rlTo_cnt xs n
    have hs : rcN xs (n+1) r = rcN xs n r + if rnN xs n = r then 1 else 0 := rfl
    have hL := rlTo_len xs n
    rw [hs]
    rw [rlTo] at h ⊢
    cases hb : rlB xs n
    · rw [hb] at h
      simp only [Bool.false_eq_true, if_false] at h ⊢
      have hl : (rlTo xs n).length = rnN xs n := by
        rw [rlTo, hb] at hL
        simpa using hL
      simp only [List.length_append, List.length_singleton] at h
      by_cases e : r < (rlTo xs n).length
      · have h1 : nth (rlTo xs n ++ [1]) r = nth (rlTo xs n) r := by simp only [nth, List.getD_eq_getElem?_getD]; rw [List.getElem?_append_left e]
        rw [h1, ih r e, if_neg (by omega)]; omega
      · obtain rfl : r = (rlTo xs n).length := by omega
        have h1 : nth (rlTo xs n ++ [1]) (rlTo xs n).length = 1 := by simp [nth, List.getD_eq_getElem?_getD]
        have h2 : rcN xs n (rlTo xs n).length = 0 := by
          by_cases h0 : n = 0
          · subst h0; rfl
          · obtain ⟨m, rfl⟩ : ∃ m, n = m + 1 := ⟨n - 1, by omega⟩
            refine rcN_high (fun k hk => ?_)
            have h3 := rlTo_len xs m
            have h4 := rnN_mono xs (a := k) (b := m) (by omega)
            omega
        rw [h1, h2, if_pos hl.symm]; rfl
    · rw [hb] at h
      simp only [if_true] at h ⊢
      have hl : (rlTo xs n).length = rnN xs n + 1 := by
        rw [rlTo, hb] at hL
        simpa using hL
      rw [List.length_set] at h
      rw [nth_set (by omega)]
      by_cases e : (rlTo xs n).length - 1 = r
      · rw [if_pos e, e, ih r h, if_pos (by omega)]; omega
      · rw [if_neg e, ih r h, if_neg (by omega)]; omega
/-- a point that lies behind the runs before r by less than the length of the run r is in this run -/
theorem run_at {xs : List Int} {n r t : Nat} (ht : t < rcN xs n r) (hn : rbN xs n r + t < n) : rnN xs (rbN xs n r + t) = r := by
  have h1 := (mono_cnt (g := rnN xs) (fun a b h => rnN_mono xs h) r n _ hn)
  have h2 := mono_cnt (g := rnN xs) (fun a b h => rnN_mono xs h) (r+1) n _ hn
  have h3 := rbN_succ xs n r
  have h4 : ¬ rbN xs n r + t < sN (fun k => if rnN xs k < r then 1 else 0) n := by show ¬ rbN xs n r + t < rbN xs n r; omega
  have h5 : rbN xs n r + t < sN (fun k => if rnN xs k < r + 1 then 1 else 0) n := by show rbN xs n r + t < rbN xs n (r+1); omega
  have h6 : ¬ rnN xs (rbN xs n r + t) < r := fun h => h4 (h1.2 h)
  have := h2.1 h5
  omega
theorem rbN_zero (xs : List Int) (n : Nat) : rbN xs n 0 = 0 := sN_zero (fun k _ => if_neg (by omega))
theorem rbN_le (xs : List Int) (n r : Nat) : rbN xs n r ≤ n := by
  have := sN_le (f := fun k => if rnN xs k < r then 1 else 0) (c := 1) (n := n) (fun i _ => by split <;> omega)
  unfold rbN; omega
theorem rbN_all {xs : List Int} {n r : Nat} (h : ∀ k, k < n → rnN xs k < r) : rbN xs n r = n := by
  unfold rbN
  rw [sN_cong (g := fun _ => 1) (fun i hi => if_pos (h i hi)), sN_const]; omega
theorem rbN_end (xs : List Int) : rbN xs xs.length (rlTo xs xs.length).length = xs.length := rbN_all (fun k hk => by
  obtain ⟨n, hn⟩ : ∃ n, xs.length = n + 1 := ⟨xs.length - 1, by omega⟩
  rw [hn, rlTo_len]
  have := rnN_mono xs (a := k) (b := n) (by omega)
  omega)
def r2F (xs : List Int) (k : Nat) : Int := ((rnN xs k / 2 : Nat) : Int)

def mtOk (xs : List Int) : Prop := ∀ t, t < acN xs xs.length → lft (acV xs xs.length) t = (lkN xs t : Int) ∧ rgt (acV xs xs.length) t = (rkN xs t : Int) ∧ lkN xs t < xs.length ∧ rkN xs t < xs.length ∧ rnN xs (lkN xs t) / 2 < mtD xs ∧ rnN xs (rkN xs t) / 2 < mtD xs
theorem mt_ok {xs : List Int} (h : mcB xs = true) : mtOk xs := fun t ht => by
  obtain ⟨h1, h2, h3, h4, _⟩ := arc_at h ht
  exact ⟨h1, h2, by omega, h4, rn_lt h (by omega), rn_lt h h4⟩
theorem mtmL_len (xs : List Int) : (mtmL xs).length + totS (mtmL xs) (mtmL xs).length ≤ 1048576 := by
  unfold mtmL
  split
  · rename_i h
    have h1 := mtD_le h
    rw [sqM_len]
    obtain ⟨D, hD⟩ : ∃ D, D = mtD xs := ⟨_, rfl⟩
    rw [← hD] at h1 ⊢
    have h2 : ∀ k, k ≤ D → totS (sqM (mtI xs (acN xs xs.length)) D D) k ≤ 12 * k := by
      intro k
      induction k with
      | zero => intro _; simp [totS]
      | succ k ih =>
        intro hk
        have := ih (by omega)
        have h3 := sqM_rlen (f := mtI xs (acN xs xs.length)) (n := D) (m := D) (i := k) (by omega)
        rw [totS]; omega
    have := h2 D (Nat.le_refl _)
    omega
  · simp [totS]

theorem rnN_hit (xs : List Int) : ∀ n r, r ≤ rnN xs n → ∃ p, p ≤ n ∧ rnN xs p = r
  | 0, r, h => ⟨0, Nat.le_refl _, by rw [rnN] at *; omega⟩
  | n+1, r, h => by
    by_cases e : r ≤ rnN xs n
    · obtain ⟨p, h1, h2⟩ := rnN_hit xs n r e
      exact ⟨p, by omega, h2⟩
    · refine ⟨n + 1, Nat.le_refl _, ?_⟩
      rw [rnN] at h ⊢
      split at h <;> rename_i hs
      · omega
      · rw [if_neg hs]; omega
/-- the arc that begins at an opener -/
theorem arc_of {xs : List Int} (h : mcB xs = true) {p : Nat} (hp : p < xs.length) (ho : opB xs p = true) : acN xs p < acN xs xs.length ∧ lkN xs (acN xs p) = p ∧ (rkN xs (acN xs p) : Int) = nth xs p := by
  have h1 : acN xs (p+1) = acN xs p + 1 := by rw [acN, if_pos ho]
  have h2 := acN_mono xs (j := p + 1) (k := xs.length) (by omega)
  have h3 : acN xs p < acN xs xs.length := by omega
  obtain ⟨k, k1, k2, k3, k4, k5⟩ := ac_at xs _ _ h3
  have hk : k = p := by
    have h4 : acN xs (k+1) = acN xs k + 1 := by rw [acN, if_pos k2]
    rcases Nat.lt_or_ge k p with hl | hl
    · have := acN_mono xs (j := k + 1) (k := p) (by omega); omega
    · rcases Nat.lt_or_ge p k with hl2 | hl2
      · have := acN_mono xs (j := p + 1) (k := k) (by omega); omega
      · omega
  subst hk
  obtain ⟨a1, a2, _⟩ := arc_at h h3
  exact ⟨h3, by omega, by rw [← a2, k4]⟩
theorem mtE_pos {xs : List Int} {T t i j : Nat} (ht : t < T) (hi : rnN xs (lkN xs t) / 2 = i) (hj : rnN xs (rkN xs t) / 2 = j) : 0 < mtE xs T i j := sN_pos (t := t) ht (by simp only [hi, hj]; simp)
/-- all arcs are counted once -/
theorem mtE_all (xs : List Int) (D : Nat) : ∀ T, sN (fun i => sN (fun j => mtE xs T i j) D) D ≤ T
  | 0 => Nat.le_of_eq (sN_zero (fun i _ => sN_zero (fun j _ => rfl)))
  | T+1 => by
    have ih := mtE_all xs D T
    have e : sN (fun i => sN (fun j => mtE xs (T+1) i j) D) D = sN (fun i => sN (fun j => mtE xs T i j) D + sN (fun j => if rnN xs (lkN xs T) / 2 = i ∧ rnN xs (rkN xs T) / 2 = j then 1 else 0) D) D := by
      apply sN_cong
      intro i _
      rw [← sN_add]
      rfl
    rw [e, sN_add]
    have h1 : ∀ i, sN (fun j => if rnN xs (lkN xs T) / 2 = i ∧ rnN xs (rkN xs T) / 2 = j then 1 else 0) D ≤ if rnN xs (lkN xs T) / 2 = i then 1 else 0 := by
      intro i
      by_cases hi : rnN xs (lkN xs T) / 2 = i
      · rw [if_pos hi]
        by_cases hd : rnN xs (rkN xs T) / 2 < D
        · rw [sN_one hd (fun j _ hj => if_neg (fun h => hj h.2.symm))]
          split <;> omega
        · rw [sN_zero (fun j hj => if_neg (fun h => hd (by rw [h.2]; exact hj)))]; omega
      · rw [if_neg hi, sN_zero (fun j _ => if_neg (fun h => hi h.1))]; omega
    have h2 := sN_mono (n := D) (fun i (_ : i < D) => h1 i)
    have h3 : sN (fun i => if rnN xs (lkN xs T) / 2 = i then 1 else 0) D ≤ 1 := by
      by_cases hd : rnN xs (lkN xs T) / 2 < D
      · rw [sN_one hd (fun j _ hj => if_neg (fun h => hj h.symm))]
        split <;> omega
      · rw [sN_zero (fun j hj => if_neg (fun h => hd (by rw [h]; exact hj)))]; omega
    omega
/-- the matrix of a matching is one -/
theorem mt_good {xs : List Int} (h : mcB xs = true) : mxB (mtmL xs) = true := by
  have hM : acN xs xs.length ≤ 12 := by have := ac_half h; have := mcB_len h; omega
  have hall := mtE_all xs (mtD xs) (acN xs xs.length)
  have e : mtmL xs = sqM (fun i j => (mtE xs (acN xs xs.length) i j : Int)) (mtD xs) (mtD xs) := by rw [mtmL, if_pos h]; rfl
  rw [e, mxB_iff]
  have hrow : ∀ i, i < mtD xs → ∃ t, t < acN xs xs.length ∧ rnN xs (lkN xs t) / 2 = i := by
    intro i hi
    have h2 := (mtD_two h)
    have h0 : 0 < xs.length := by
      apply Classical.byContradiction
      intro hn
      have : xs.length = 0 := by omega
      unfold mtD at hi
      rw [this] at hi
      simp [rlTo] at hi
    have h3 := h2.2 h0
    obtain ⟨p, p1, p2⟩ := rnN_hit xs (xs.length - 1) (2 * i) (by omega)
    have ho : opB xs p = true := by rw [rnN_par (op_first h h0), p2]; simp
    obtain ⟨a1, a2, _⟩ := arc_of h (p := p) (by omega) ho
    exact ⟨acN xs p, a1, by rw [a2, p2]; omega⟩
  have hcol : ∀ j, j < mtD xs → ∃ t, t < acN xs xs.length ∧ rnN xs (rkN xs t) / 2 = j := by
    intro j hj
    have h2 := (mtD_two h)
    have h0 : 0 < xs.length := by
      apply Classical.byContradiction
      intro hn
      have : xs.length = 0 := by omega
      unfold mtD at hj
      rw [this] at hj
      simp [rlTo] at hj
    have h3 := h2.2 h0
    obtain ⟨q, p1, p2⟩ := rnN_hit xs (xs.length - 1) (2 * j + 1) (by omega)
    have ho : opB xs q = false := by
      rw [rnN_par (op_first h h0), p2, decide_eq_false_iff_not]; omega
    obtain ⟨p, hp, e1, e2, hne⟩ := mcB_at h (k := q) (by omega)
    rw [opB, decide_eq_false_iff_not, e1] at ho
    have hop : opB xs p = true := by rw [opB, decide_eq_true_eq, e2]; omega
    obtain ⟨a1, a2, a3⟩ := arc_of h hp hop
    have hq : rkN xs (acN xs p) = q := by omega
    exact ⟨acN xs p, a1, by rw [hq, p2]; omega⟩
  have hlt : ∀ t, t < acN xs xs.length → rnN xs (lkN xs t) / 2 < mtD xs ∧ rnN xs (rkN xs t) / 2 < mtD xs := fun t ht => ⟨((mt_ok h) t ht).2.2.2.2.1, ((mt_ok h) t ht).2.2.2.2.2⟩
  refine ⟨ad_sq (fun i hi => ?_) (Nat.le_trans hall hM), ?_, ?_⟩
  · obtain ⟨t, ht, e1⟩ := hrow i hi
    exact sN_pos (hlt t ht).2 (mtE_pos ht e1 rfl)
  · rw [upB_iff]
    intro i hi
    rw [sqM_len] at hi ⊢
    refine ⟨sqM_rlen hi, fun j hj => ?_⟩
    rw [sqM_at hi (by omega)]
    have : mtE xs (acN xs xs.length) i j = 0 := sN_zero (fun t ht => if_neg (fun hh => by
      obtain ⟨_, _, a3, _⟩ := arc_at h ht
      have := rnN_mono xs (a := lkN xs t) (b := rkN xs t) (by omega)
      omega))
    rw [this]; rfl
  · rw [cols_sq]
    refine ad_sq (e := fun i j => mtE xs (acN xs xs.length) j i) (fun i hi => ?_) ?_
    · obtain ⟨t, ht, e1⟩ := hcol i hi
      exact sN_pos (hlt t ht).1 (mtE_pos ht rfl e1)
    · have := sN_swap (fun i j => mtE xs (acN xs xs.length) i j) (mtD xs) (mtD xs)
      rw [← this]
      exact Nat.le_trans hall hM
def tdL (xs : List Int) : List Int := if mcB xs then tmL (mtmL xs) else []
theorem tdL_len (xs : List Int) : (tdL xs).length ≤ 1048576 := by
  unfold tdL
  split
  · exact tmL_len _
  · simp

def tdB (xs : List Int) : Bool := mcB xs && decide ((neTo xs (xs.length - 1)).length = 0)
theorem tdB_no {xs : List Int} (h : mcB xs = false) : tdB xs = false := by simp [tdB, h]

def mmF (xs : List Int) (b : Nat) : Int := ((xs.length : Int) - 1) - nth xs (xs.length - 1 - b)
def mmL (xs : List Int) : List Int := if mcB xs then fmap (mmF xs) xs.length else []
theorem mmL_len (xs : List Int) : (mmL xs).length ≤ 1048576 := by
  unfold mmL
  split
  · rename_i h; have := mcB_len h; rw [fmap_len]; omega
  · simp

theorem sN_lt {a : Nat} : ∀ n, a ≤ n → sN (fun k => if k < a then 1 else 0) n = a := by
  have h : ∀ n, sN (fun k => if k < a then 1 else 0) n = min n a := by
    intro n
    induction n with
    | zero => simp [sN]
    | succ n ih =>
      rw [sN, ih]
      by_cases e : n < a
      · rw [if_pos e]; omega
      · rw [if_neg e]; omega
  intro n hn
  rw [h]; omega
theorem sN_win {a c n : Nat} (h : a + c ≤ n) : sN (fun k => if a ≤ k ∧ k < a + c then 1 else 0) n = c := by
  have h1 := sN_lt (a := a + c) n h
  have h2 := sN_lt (a := a) n (by omega)
  have h3 := sN_add (fun k => if k < a then 1 else 0) (fun k => if a ≤ k ∧ k < a + c then 1 else 0) n
  have h4 : sN (fun k => (if k < a then 1 else 0) + (if a ≤ k ∧ k < a + c then 1 else 0)) n = sN (fun k => if k < a + c then 1 else 0) n := sN_cong (fun k _ => by
    by_cases e : k < a
    · rw [if_pos e, if_neg (by omega), if_pos (by omega)]
    · by_cases e2 : k < a + c
      · rw [if_neg e, if_pos ⟨by omega, e2⟩, if_pos e2]
      · rw [if_neg e, if_neg (by omega), if_neg e2])
  omega
/-- rows and columns of a matrix have a sum that is not zero -/
theorem en_rpos {xss : List (List Int)} (h : mxB xss = true) {i : Nat} (hi : i < xss.length) : 0 < rS (enN xss) i xss.length := by
  have h1 := (adB_row (mxB_iff.1 h).1 hi).1
  have h2 := en_totR h hi
  omega
theorem colsL_len' (xss : List (List Int)) : (colsL xss).length = xss.length := by simp [colsL]
theorem en_cpos {xss : List (List Int)} (h : mxB xss = true) {j : Nat} (hj : j < xss.length) : 0 < cS (enN xss) j xss.length := by
  have h1 := (adB_row (mxB_iff.1 h).2.2 (k := j) (by rw [colsL_len']; exact hj)).1
  rw [colsL_row hj] at h1
  have h2 := en_totC h hj
  omega
theorem tmL_N {xss : List (List Int)} (h : mxB xss = true) : (tmL xss).length = oP (enN xss) xss.length xss.length := by rw [tmL, if_pos h, fmap_len]
theorem tm_nth {xss : List (List Int)} (h : mxB xss = true) {q : Nat} (hq : q < oP (enN xss) xss.length xss.length) : nth (tmL xss) q = (tmF (enN xss) xss.length q : Int) := by rw [tmL, if_pos h, fmap_nth _ hq]
theorem tm_mc {xss : List (List Int)} (h : mxB xss = true) : mcB (tmL xss) = true := by
  have hN := tmL_N h
  have h24 := (en_two h).2
  have hI := tm_Inv (e := enN xss) (d := xss.length) (en_up xss)
  refine mcB_iff.2 ⟨by omega, fun k hk => ?_⟩
  rw [hN] at hk
  have h1 := hI.lt k hk
  have h2 := hI.ne k hk
  have h3 := hI.inv k hk
  rw [ptOk, tm_nth h hk, hN, Int.toNat_natCast, tm_nth h h1, h3]
  simp only [Bool.and_eq_true, inB_iff, Bool.not_eq_true', decide_eq_false_iff_not, decide_eq_true_eq]
  exact ⟨by omega, by omega, trivial⟩
theorem tm_opB {xss : List (List Int)} (h : mxB xss = true) {q i : Nat} (hi : i < xss.length) (h1 : oP (enN xss) xss.length i ≤ q) (h2 : q < oP (enN xss) xss.length (i+1)) : opB (tmL xss) q = decide (q < cP (enN xss) xss.length i) := by
  have hu := en_up xss
  have h7 : oP (enN xss) xss.length (i+1) ≤ oP (enN xss) xss.length xss.length := sN_up _ (by omega)
  have hq : q < oP (enN xss) xss.length xss.length := by omega
  rw [opB, tm_nth h hq]
  obtain ⟨i', j, t, hi', hj, ht, e | e⟩ := tm_of hq
  · have ⟨k1, k2, k3⟩ := tm_lt hu hi' hj ht
    have h8 : oP (enN xss) xss.length (i'+1) = oP (enN xss) xss.length i' + (rS (enN xss) i' xss.length + cS (enN xss) i' xss.length) := rfl
    have h9 : cP (enN xss) xss.length i' = oP (enN xss) xss.length i' + rS (enN xss) i' xss.length := rfl
    have := tm_blk (e := enN xss) (d := xss.length) (q := q) (i := i) (i' := i') (by omega) (by omega) (by omega) (by omega)
    subst this
    have k4 := tm_op hi' hj ht
    rw [← e] at k4
    rw [decide_eq_true (by omega), decide_eq_true (by omega)]
  · have ⟨k1, k2, k3⟩ := tm_lt hu hi' hj ht
    have h9 : cP (enN xss) xss.length j = oP (enN xss) xss.length j + rS (enN xss) j xss.length := rfl
    have := tm_blk (e := enN xss) (d := xss.length) (q := q) (i := i) (i' := j) (by omega) (by omega) (by omega) (by omega)
    subst this
    have k4 := tm_cl hi' hj ht
    rw [← e] at k4
    rw [decide_eq_false (by omega), decide_eq_false (by omega)]
/-- the number of the run of a point -/
theorem tm_rn {xss : List (List Int)} (h : mxB xss = true) : ∀ k i, i < xss.length → oP (enN xss) xss.length i ≤ k → k < oP (enN xss) xss.length (i+1) → rnN (tmL xss) k = if k < cP (enN xss) xss.length i then 2*i else 2*i+1
  | 0, i, hi, h1, h2 => by
    have h0 : i = 0 := by
      cases i with
      | zero => rfl
      | succ i =>
        exfalso
        have h3 : oP (enN xss) xss.length (i+1) = oP (enN xss) xss.length i + (rS (enN xss) i xss.length + cS (enN xss) i xss.length) := rfl
        have := en_rpos h (i := i) (by omega)
        omega
    subst h0
    have h9 : cP (enN xss) xss.length 0 = oP (enN xss) xss.length 0 + rS (enN xss) 0 xss.length := rfl
    have := en_rpos h hi
    rw [rnN, if_pos (by omega)]
  | k+1, i, hi, h1, h2 => by
    have h9 : cP (enN xss) xss.length i = oP (enN xss) xss.length i + rS (enN xss) i xss.length := rfl
    have hp := en_rpos h hi
    have o2 := tm_opB h hi h1 h2
    rw [rnN, smB, o2]
    by_cases e : oP (enN xss) xss.length i ≤ k
    · have ih := tm_rn h k i hi e (by omega)
      have o1 := tm_opB h hi e (by omega : k < _)
      rw [o1, ih]
      by_cases c1 : k + 1 < cP (enN xss) xss.length i
      · rw [decide_eq_true c1, decide_eq_true (by omega), if_pos (by rfl), if_pos (by omega), if_pos c1]
      · by_cases c2 : k < cP (enN xss) xss.length i
        · rw [decide_eq_false c1, decide_eq_true c2, if_neg (by decide), if_pos c2, if_neg c1]
        · rw [decide_eq_false c1, decide_eq_false c2, if_pos (by rfl), if_neg c2, if_neg c1]
    · cases i with
      | zero => exact absurd (Nat.zero_le k) e
      | succ i =>
        have h3 : oP (enN xss) xss.length (i+1) = oP (enN xss) xss.length i + (rS (enN xss) i xss.length + cS (enN xss) i xss.length) := rfl
        have h4 : cP (enN xss) xss.length i = oP (enN xss) xss.length i + rS (enN xss) i xss.length := rfl
        have hp2 := en_rpos h (i := i) (by omega)
        have hc2 := en_cpos h (j := i) (by omega)
        have ih := tm_rn h k i (by omega) (by omega) (by omega)
        have o1 := tm_opB h (i := i) (q := k) (by omega) (by omega) (by omega)
        rw [o1, ih, decide_eq_false (by omega), decide_eq_true (by omega), if_neg (by decide), if_neg (by omega), if_pos (by omega)]
        omega
theorem tm_in {xss : List (List Int)} {q : Nat} (hq : q < oP (enN xss) xss.length xss.length) : ∃ i, i < xss.length ∧ oP (enN xss) xss.length i ≤ q ∧ q < oP (enN xss) xss.length (i+1) :=
  fnd_ex (f := oP (enN xss) xss.length) (Nat.zero_le _) hq
theorem tm_rb {xss : List (List Int)} (h : mxB xss = true) {r b : Nat} (hb : b ≤ oP (enN xss) xss.length xss.length) (hr : ∀ k, k < oP (enN xss) xss.length xss.length → (rnN (tmL xss) k < r ↔ k < b)) : rbN (tmL xss) (oP (enN xss) xss.length xss.length) r = b := by
  rw [← sN_lt _ hb, rbN]
  refine sN_cong (fun k hk => ?_)
  by_cases e : k < b
  · rw [if_pos e, if_pos ((hr k hk).2 e)]
  · rw [if_neg e, if_neg (fun c => e ((hr k hk).1 c))]
theorem tm_rb0 {xss : List (List Int)} (h : mxB xss = true) {i : Nat} (hi : i ≤ xss.length) : rbN (tmL xss) (oP (enN xss) xss.length xss.length) (2*i) = oP (enN xss) xss.length i :=
  tm_rb h (sN_up _ hi) (fun k hk => by
    obtain ⟨i', a1, a2, a3⟩ := tm_in hk
    have a4 := tm_rn h k i' a1 a2 a3
    rcases Nat.lt_or_ge i' i with c | c
    · have : oP (enN xss) xss.length (i'+1) ≤ oP (enN xss) xss.length i := sN_up _ (by omega)
      constructor
      · intro; omega
      · intro; rw [a4]; split <;> omega
    · have : oP (enN xss) xss.length i ≤ oP (enN xss) xss.length i' := sN_up _ (by omega)
      constructor
      · intro c2; rw [a4] at c2; split at c2 <;> omega
      · intro; omega)
theorem tm_rb1 {xss : List (List Int)} (h : mxB xss = true) {i : Nat} (hi : i < xss.length) : rbN (tmL xss) (oP (enN xss) xss.length xss.length) (2*i+1) = cP (enN xss) xss.length i := by
  have h3 : oP (enN xss) xss.length (i+1) = oP (enN xss) xss.length i + (rS (enN xss) i xss.length + cS (enN xss) i xss.length) := rfl
  have h9 : cP (enN xss) xss.length i = oP (enN xss) xss.length i + rS (enN xss) i xss.length := rfl
  have h7 : oP (enN xss) xss.length (i+1) ≤ oP (enN xss) xss.length xss.length := sN_up _ (by omega)
  refine tm_rb h (by omega) (fun k hk => ?_)
  obtain ⟨i', a1, a2, a3⟩ := tm_in hk
  have a4 := tm_rn h k i' a1 a2 a3
  rcases Nat.lt_trichotomy i' i with c | c | c
  · have : oP (enN xss) xss.length (i'+1) ≤ oP (enN xss) xss.length i := sN_up _ (by omega)
    constructor
    · intro; omega
    · intro; rw [a4]; split <;> omega
  · subst c
    rw [a4]
    by_cases c2 : k < cP (enN xss) xss.length i'
    · rw [if_pos c2]; omega
    · rw [if_neg c2]; omega
  · have : oP (enN xss) xss.length (i+1) ≤ oP (enN xss) xss.length i' := sN_up _ (by omega)
    constructor
    · intro c2; rw [a4] at c2; split at c2 <;> omega
    · intro; omega
theorem tm_rl {xss : List (List Int)} (h : mxB xss = true) : (rlTo (tmL xss) (tmL xss).length).length = 2 * xss.length := by
  rw [tmL_N h]
  rcases Nat.eq_zero_or_pos xss.length with e | e
  · rw [e]; rfl
  · have e1 : xss.length = xss.length - 1 + 1 := by omega
    have h3 : oP (enN xss) xss.length (xss.length - 1 + 1) = oP (enN xss) xss.length (xss.length - 1) + (rS (enN xss) (xss.length - 1) xss.length + cS (enN xss) (xss.length - 1) xss.length) := rfl
    rw [← e1] at h3
    have hp2 := en_rpos h (i := xss.length - 1) (by omega)
    have hc2 := en_cpos h (j := xss.length - 1) (by omega)
    have h9 : cP (enN xss) xss.length (xss.length - 1) = oP (enN xss) xss.length (xss.length - 1) + rS (enN xss) (xss.length - 1) xss.length := rfl
    have a4 := tm_rn h (oP (enN xss) xss.length xss.length - 1) (xss.length - 1) (by omega) (by omega) (by rw [← e1]; omega)
    rw [if_neg (by omega)] at a4
    have h5 := rlTo_len (tmL xss) (oP (enN xss) xss.length xss.length - 1)
    rw [show oP (enN xss) xss.length xss.length - 1 + 1 = oP (enN xss) xss.length xss.length by omega] at h5
    omega
theorem tm_runs {xss : List (List Int)} (h : mxB xss = true) {i : Nat} (hi : i < xss.length) : nth (rlTo (tmL xss) (tmL xss).length) (2*i) = totR (rowL xss i) ∧ nth (rlTo (tmL xss) (tmL xss).length) (2*i+1) = totR (colL xss i) := by
  have h0 := tm_rl h
  have h1 := rlTo_cnt (tmL xss) (tmL xss).length (2*i) (by omega)
  have h2 := rlTo_cnt (tmL xss) (tmL xss).length (2*i+1) (by omega)
  have h3 := rbN_succ (tmL xss) (tmL xss).length (2*i)
  have h4 := rbN_succ (tmL xss) (tmL xss).length (2*i+1)
  have h5 := tm_rb0 h (i := i) (by omega)
  have h6 := tm_rb1 h hi
  have h7 := tm_rb0 h (i := i+1) (by omega)
  rw [show 2*(i+1) = 2*i+1+1 by omega] at h7
  rw [← tmL_N h] at h5 h6 h7
  have h8 : oP (enN xss) xss.length (i+1) = oP (enN xss) xss.length i + (rS (enN xss) i xss.length + cS (enN xss) i xss.length) := rfl
  have h9 : cP (enN xss) xss.length i = oP (enN xss) xss.length i + rS (enN xss) i xss.length := rfl
  have h10 := en_totR h hi
  have h11 := en_totC h hi
  omega

theorem ac_sumF {xs : List Int} (h : mcB xs = true) (f : Nat → Nat → Nat) : ∀ n, n ≤ xs.length → sN (fun t => f (lkN xs t) (rkN xs t)) (acN xs n) = sN (fun p => if opB xs p then f p (nth xs p).toNat else 0) n
  | 0, _ => rfl
  | n+1, hn => by
    rw [acN, sN, ← ac_sumF h f n (by omega)]
    cases ho : opB xs n
    · rw [if_neg (by decide), if_neg (by decide)]; rfl
    · have ⟨h1, h2, h3⟩ := arc_of h (p := n) (by omega) ho
      rw [if_pos rfl, if_pos rfl, sN, h2, ← h3, Int.toNat_natCast]
theorem tm_blkrun {xss : List (List Int)} (h : mxB xss = true) {q i : Nat} (hi : i < xss.length) (h1 : oP (enN xss) xss.length i ≤ q) (h2 : q < oP (enN xss) xss.length (i+1)) : rnN (tmL xss) q / 2 = i := by
  rw [tm_rn h q i hi h1 h2]
  split <;> omega
theorem tm_E {xss : List (List Int)} (h : mxB xss = true) {i j : Nat} (hi : i < xss.length) (hj : j < xss.length) : mtE (tmL xss) (acN (tmL xss) (tmL xss).length) i j = enN xss i j := by
  have hu := en_up xss
  have hN := tmL_N h
  have h8 : oP (enN xss) xss.length (i+1) ≤ oP (enN xss) xss.length xss.length := sN_up _ (by omega)
  have h3 : oP (enN xss) xss.length (i+1) = oP (enN xss) xss.length i + (rS (enN xss) i xss.length + cS (enN xss) i xss.length) := rfl
  have f1 : rS (enN xss) i (j+1) = rS (enN xss) i j + enN xss i j := rfl
  have f2 : rS (enN xss) i (j+1) ≤ rS (enN xss) i xss.length := sN_up _ (by omega)
  rw [mtE, ac_sumF (tm_mc h) (fun a b => if rnN (tmL xss) a / 2 = i ∧ rnN (tmL xss) b / 2 = j then 1 else 0) _ (Nat.le_refl _), hN,
    ← sN_win (a := oP (enN xss) xss.length i + rS (enN xss) i j) (c := enN xss i j) (n := oP (enN xss) xss.length xss.length) (by omega)]
  refine sN_cong (fun p hp => ?_)
  rw [tm_nth h hp, Int.toNat_natCast]
  obtain ⟨i', j', t, hi', hj', ht, e⟩ := tm_of hp
  have o1 := tm_op hi' hj' ht
  have c1 := tm_cl hi' hj' ht
  have ⟨k1, k2, k3⟩ := tm_lt hu hi' hj' ht
  have g3 : oP (enN xss) xss.length (j'+1) = oP (enN xss) xss.length j' + (rS (enN xss) j' xss.length + cS (enN xss) j' xss.length) := rfl
  have g9 : cP (enN xss) xss.length j' = oP (enN xss) xss.length j' + rS (enN xss) j' xss.length := rfl
  have g4 : oP (enN xss) xss.length (i'+1) = oP (enN xss) xss.length i' + (rS (enN xss) i' xss.length + cS (enN xss) i' xss.length) := rfl
  have g10 : cP (enN xss) xss.length i' = oP (enN xss) xss.length i' + rS (enN xss) i' xss.length := rfl
  rcases e with e | e
  · rw [← e] at o1
    have r1 := tm_blkrun h (q := p) hi' (by omega) (by omega)
    have r2 := tm_blkrun h (q := tmF (enN xss) xss.length p) hj' (by omega) (by omega)
    have ho : opB (tmL xss) p = true := by rw [opB, tm_nth h hp]; exact decide_eq_true (by omega)
    rw [ho, if_pos rfl, r1, r2]
    by_cases c : i' = i ∧ j' = j
    · obtain ⟨rfl, rfl⟩ := c
      rw [if_pos ⟨rfl, rfl⟩, if_pos ⟨by omega, by omega⟩]
    · rw [if_neg c, if_neg]
      rintro ⟨w1, w2⟩
      have hii := tm_blk (e := enN xss) (d := xss.length) (q := p) (i := i) (i' := i') (by omega) (by omega) (by omega) (by omega)
      subst hii
      rcases Nat.lt_trichotomy j j' with q | q | q
      · have : rS (enN xss) i (j+1) ≤ rS (enN xss) i j' := sN_up _ (by omega)
        omega
      · exact c ⟨rfl, q.symm⟩
      · have d1 : rS (enN xss) i (j'+1) = rS (enN xss) i j' + enN xss i j' := rfl
        have : rS (enN xss) i (j'+1) ≤ rS (enN xss) i j := sN_up _ (by omega)
        omega
  · rw [← e] at c1
    have ho : opB (tmL xss) p = false := by rw [opB, tm_nth h hp]; exact decide_eq_false (by omega)
    rw [ho, if_neg (by decide), if_neg]
    rintro ⟨w1, w2⟩
    have hii := tm_blk (e := enN xss) (d := xss.length) (q := p) (i := i) (i' := j') (by omega) (by omega) (by omega) (by omega)
    subst hii
    omega
theorem tm_D {xss : List (List Int)} (h : mxB xss = true) : mtD (tmL xss) = xss.length := by
  rw [mtD, tm_rl h]; omega
/-- the matrix of the tidy matching of a matrix is the matrix -/
theorem tm_mx {xss : List (List Int)} (h : mxB xss = true) : mtmL (tmL xss) = xss := by
  rw [mtmL, if_pos (tm_mc h), tm_D h]
  conv => rhs; rw [sq_eta (fun i hi => mxB_len h hi)]
  refine sqM_congr (fun i hi j hj => ?_)
  rw [mtI, tm_E h hi hj, en_at h hi hj]

theorem sN_inv {F : Nat → Nat} {n : Nat} (hF : Inv F n) (g : Nat → Nat) : sN (fun p => g (F p)) n = sN g n := by
  have h1 : sN (fun p => g (F p)) n = sN (fun p => sN (fun q => if F p = q then g q else 0) n) n := sN_cong (fun p hp => by
    rw [sN_one (j := F p) (hF.lt p hp) (fun i _ hi => if_neg (fun e => hi e.symm)), if_pos rfl])
  have h2 : sN (fun q => sN (fun p => if F p = q then g q else 0) n) n = sN g n := sN_cong (fun q hq => by
    rw [sN_one (j := F q) (hF.lt q hq) (fun i hi hne => if_neg (fun e => hne (by rw [← e, hF.inv i hi]))), if_pos (hF.inv q hq)])
  rw [h1, sN_swap (fun p q => if F p = q then g q else 0), h2]
theorem mc_Inv {xs : List Int} (h : mcB xs = true) : Inv (fun p => (nth xs p).toNat) xs.length := by
  refine ⟨fun q hq => ?_, fun q hq => ?_, fun q hq => ?_⟩ <;> obtain ⟨j, hj, e1, e2, hne⟩ := mcB_at h hq
  · simp only [e1, Int.toNat_natCast, e2]
  · simp only [e1, Int.toNat_natCast]; exact hj
  · simp only [e1, Int.toNat_natCast]; exact hne
theorem mc_par {xs : List Int} (h : mcB xs = true) {k : Nat} (hk : k < xs.length) : opB xs k = decide (rnN xs k % 2 = 0) := rnN_par (op_first h (by omega)) k
theorem mt_rS {xs : List Int} (h : mcB xs = true) (i : Nat) : sN (mtE xs (acN xs xs.length) i) (mtD xs) = rcN xs xs.length (2*i) := by
  have h1 : sN (mtE xs (acN xs xs.length) i) (mtD xs) = sN (fun t => sN (fun j => if rnN xs (lkN xs t) / 2 = i ∧ rnN xs (rkN xs t) / 2 = j then 1 else 0) (mtD xs)) (acN xs xs.length) :=
    sN_swap (fun j t => if rnN xs (lkN xs t) / 2 = i ∧ rnN xs (rkN xs t) / 2 = j then 1 else 0) (acN xs xs.length) (mtD xs)
  have h2 : sN (fun t => sN (fun j => if rnN xs (lkN xs t) / 2 = i ∧ rnN xs (rkN xs t) / 2 = j then 1 else 0) (mtD xs)) (acN xs xs.length) = sN (fun t => (fun a _ => if rnN xs a / 2 = i then 1 else 0) (lkN xs t) (rkN xs t)) (acN xs xs.length) := sN_cong (fun t ht => by
    have ha := arc_at h ht
    rw [sN_one (j := rnN xs (rkN xs t) / 2) (rn_lt h ha.2.2.2.1) (fun j _ hj => if_neg (fun e => hj e.2.symm))]
    simp)
  rw [h1, h2, ac_sumF h (fun a _ => if rnN xs a / 2 = i then 1 else 0) _ (Nat.le_refl _), rcN]
  refine sN_cong (fun p hp => ?_)
  rw [mc_par h hp]
  by_cases e : rnN xs p = 2*i
  · rw [if_pos e, if_pos (by rw [decide_eq_true_eq]; omega), if_pos (by omega)]
  · rw [if_neg e]
    by_cases e2 : rnN xs p % 2 = 0
    · rw [if_pos (by rw [decide_eq_true_eq]; exact e2), if_neg (by omega)]
    · rw [if_neg (by rw [decide_eq_true_eq]; exact e2)]
theorem mc_flip {xs : List Int} (h : mcB xs = true) {p : Nat} (hp : p < xs.length) : opB xs (nth xs p).toNat = !opB xs p := by
  obtain ⟨j, hj, e1, e2, hne⟩ := mcB_at h hp
  rw [opB, opB, e1, Int.toNat_natCast, e2]
  by_cases c : p < j
  · rw [decide_eq_false (by omega), decide_eq_true (by omega)]; rfl
  · rw [decide_eq_true (by omega), decide_eq_false (by omega)]; rfl
theorem mt_cS {xs : List Int} (h : mcB xs = true) (j : Nat) : sN (fun i => mtE xs (acN xs xs.length) i j) (mtD xs) = rcN xs xs.length (2*j+1) := by
  have h1 : sN (fun i => mtE xs (acN xs xs.length) i j) (mtD xs) = sN (fun t => sN (fun i => if rnN xs (lkN xs t) / 2 = i ∧ rnN xs (rkN xs t) / 2 = j then 1 else 0) (mtD xs)) (acN xs xs.length) :=
    sN_swap (fun i t => if rnN xs (lkN xs t) / 2 = i ∧ rnN xs (rkN xs t) / 2 = j then 1 else 0) (acN xs xs.length) (mtD xs)
  have h2 : sN (fun t => sN (fun i => if rnN xs (lkN xs t) / 2 = i ∧ rnN xs (rkN xs t) / 2 = j then 1 else 0) (mtD xs)) (acN xs xs.length) = sN (fun t => (fun _ b => if rnN xs b / 2 = j then 1 else 0) (lkN xs t) (rkN xs t)) (acN xs xs.length) := sN_cong (fun t ht => by
    have ha := arc_at h ht
    rw [sN_one (j := rnN xs (lkN xs t) / 2) (rn_lt h (by omega)) (fun i _ hi => if_neg (fun e => hi e.1.symm))]
    simp)
  have h3 := sN_inv (mc_Inv h) (fun q => if opB xs q then 0 else if rnN xs q / 2 = j then 1 else 0)
  rw [h1, h2, ac_sumF h (fun _ b => if rnN xs b / 2 = j then 1 else 0) _ (Nat.le_refl _), rcN]
  have h4 : sN (fun p => if opB xs p then (fun _ b => if rnN xs b / 2 = j then 1 else 0) p (nth xs p).toNat else 0) xs.length = sN (fun p => (fun q => if opB xs q then 0 else if rnN xs q / 2 = j then 1 else 0) ((fun p => (nth xs p).toNat) p)) xs.length := sN_cong (fun p hp => by
    simp only [mc_flip h hp]
    cases opB xs p <;> rfl)
  rw [h4, h3]
  refine sN_cong (fun p hp => ?_)
  rw [mc_par h hp]
  by_cases e : rnN xs p = 2*j+1
  · rw [if_pos e, if_neg (by rw [decide_eq_true_eq]; omega), if_pos (by omega)]
  · rw [if_neg e]
    by_cases e2 : rnN xs p % 2 = 0
    · rw [if_pos (by rw [decide_eq_true_eq]; exact e2)]
    · rw [if_neg (by rw [decide_eq_true_eq]; exact e2), if_neg (by omega)]
theorem mt_len {xs : List Int} (h : mcB xs = true) : (mtmL xs).length = mtD xs := by rw [mtmL, if_pos h, sqM_len]
theorem mt_en {xs : List Int} (h : mcB xs = true) {i j : Nat} (hi : i < mtD xs) (hj : j < mtD xs) : enN (mtmL xs) i j = mtE xs (acN xs xs.length) i j := by
  have hl := mt_len h
  have h1 := en_at (mt_good h) (i := i) (j := j) (by omega) (by omega)
  have h2 : atM (mtmL xs) i j = (mtE xs (acN xs xs.length) i j : Int) := by
    rw [mtmL, if_pos h, sqM_at hi hj]; rfl
  omega
theorem mt_r {xs : List Int} (h : mcB xs = true) {i : Nat} (hi : i < mtD xs) : rS (enN (mtmL xs)) i (mtD xs) = rcN xs xs.length (2*i) := by
  rw [← mt_rS h i]
  exact sN_cong (fun j hj => mt_en h hi hj)
theorem mt_c {xs : List Int} (h : mcB xs = true) {j : Nat} (hj : j < mtD xs) : cS (enN (mtmL xs)) j (mtD xs) = rcN xs xs.length (2*j+1) := by
  rw [← mt_cS h j]
  exact sN_cong (fun i hi => mt_en h hi hj)
/-- the runs of the tidy matching begin where the runs of the given one begin -/
theorem mt_oP {xs : List Int} (h : mcB xs = true) : ∀ k, k ≤ mtD xs → oP (enN (mtmL xs)) (mtD xs) k = rbN xs xs.length (2*k)
  | 0, _ => by rw [rbN_zero]; rfl
  | k+1, hk => by
    have ih := mt_oP h k (by omega)
    have h1 := mt_r h (i := k) (by omega)
    have h2 := mt_c h (j := k) (by omega)
    have h3 : oP (enN (mtmL xs)) (mtD xs) (k+1) = oP (enN (mtmL xs)) (mtD xs) k + (rS (enN (mtmL xs)) k (mtD xs) + cS (enN (mtmL xs)) k (mtD xs)) := rfl
    have h4 := rbN_succ xs xs.length (2*k)
    have h5 := rbN_succ xs xs.length (2*k+1)
    rw [show 2*(k+1) = 2*k+1+1 by omega]
    omega
theorem td_len {xs : List Int} (h : mcB xs = true) : (tmL (mtmL xs)).length = xs.length := by
  have h1 := tmL_N (mt_good h)
  rw [mt_len h, mt_oP h _ (Nat.le_refl _)] at h1
  have h2 := rbN_end xs
  rw [(mtD_two h).1] at h2
  omega
/-- openers stay where they are -/
theorem td_op {xs : List Int} (h : mcB xs = true) {q : Nat} (hq : q < xs.length) : opB (tmL (mtmL xs)) q = opB xs q := by
  have hm := mt_good h
  have hl := mt_len h
  have h1 := tmL_N hm
  have h2 := td_len h
  obtain ⟨i, hi, h3, h4⟩ := tm_in (xss := mtmL xs) (q := q) (by omega)
  rw [tm_opB hm hi h3 h4, mc_par h hq]
  rw [hl] at hi h3 h4 ⊢
  have h9 : cP (enN (mtmL xs)) (mtD xs) i = oP (enN (mtmL xs)) (mtD xs) i + rS (enN (mtmL xs)) i (mtD xs) := rfl
  rw [h9, mt_oP h i (by omega), mt_r h hi]
  rw [mt_oP h i (by omega)] at h3
  rw [mt_oP h (i+1) (by omega)] at h4
  have h5 := rbN_succ xs xs.length (2*i)
  have c1 := mono_cnt (fun a b => rnN_mono xs (a := a) (b := b)) (2*i) xs.length q hq
  have c2 := mono_cnt (fun a b => rnN_mono xs (a := a) (b := b)) (2*i+1) xs.length q hq
  have c3 := mono_cnt (fun a b => rnN_mono xs (a := a) (b := b)) (2*(i+1)) xs.length q hq
  rw [← rbN] at c1 c2 c3
  rw [decide_eq_decide]
  constructor
  · intro; omega
  · intro; omega

theorem befTo_cong {cs ds : List Int} {x y : Int} : ∀ {n : Nat}, (∀ j, j < n → (x < lft cs j ↔ y < lft ds j)) → befTo cs x n = befTo ds y n
  | 0, _ => rfl
  | n+1, h => by
    rw [befTo, befTo, befTo_cong (fun j hj => h j (by omega))]
    by_cases e : x < lft cs n
    · rw [if_pos e, if_pos ((h n (by omega)).1 e)]
    · rw [if_neg e, if_neg (fun c => e ((h n (by omega)).2 c))]
/-- the arcs by the numbers of their runs -/
def arR (xs : List Int) : List Int := fmap (fun k => if k % 2 = 0 then ((rnN xs (lkN xs (k/2)) / 2 : Nat) : Int) else ((rnN xs (rkN xs (k/2)) / 2 : Nat) : Int)) (acN xs xs.length * 2)
theorem arR_len (xs : List Int) : (arR xs).length = acN xs xs.length * 2 := fmap_len _ _
theorem arR_at {xs : List Int} {t : Nat} (ht : t < acN xs xs.length) : lft (arR xs) t = ((rnN xs (lkN xs t) / 2 : Nat) : Int) ∧ rgt (arR xs) t = ((rnN xs (rkN xs t) / 2 : Nat) : Int) := by
  constructor
  · rw [lft, arR, fmap_nth _ (by omega), if_pos (by omega), show t * 2 / 2 = t by omega]
  · rw [rgt, arR, fmap_nth _ (by omega), if_neg (by omega), show (t * 2 + 1) / 2 = t by omega]
theorem arc_runs {xs : List Int} (h : mcB xs = true) {t : Nat} (ht : t < acN xs xs.length) : rnN xs (lkN xs t) % 2 = 0 ∧ ¬ rnN xs (rkN xs t) % 2 = 0 ∧ rnN xs (lkN xs t) ≤ rnN xs (rkN xs t) ∧ rnN xs (rkN xs t) / 2 < mtD xs := by
  have ⟨_, _, h3, h4, h5, h6, _⟩ := arc_at h ht
  have p1 := mc_par h (k := lkN xs t) (by omega)
  have p2 := mc_par h h4
  rw [h5] at p1
  rw [h6] at p2
  exact ⟨by simpa using p1.symm, by simpa using p2.symm, rnN_mono xs (by omega), rn_lt h h4⟩
/-- one arc ends before another begins if its run does -/
theorem arc_bef {xs : List Int} (h : mcB xs = true) {k j : Nat} (hk : k < acN xs xs.length) (hj : j < acN xs xs.length) : rgt (acV xs xs.length) k < lft (acV xs xs.length) j ↔ rgt (arR xs) k < lft (arR xs) j := by
  have a1 := arc_at h hk
  have a2 := arc_at h hj
  have r1 := arc_runs h hk
  have r2 := arc_runs h hj
  rw [a1.2.1, a2.1, (arR_at hk).2, (arR_at hj).1]
  constructor
  · intro c
    have := rnN_mono xs (a := rkN xs k) (b := lkN xs j) (by omega)
    omega
  · intro c
    rcases Nat.lt_or_ge (rkN xs k) (lkN xs j) with d | d
    · omega
    · have := rnN_mono xs (a := lkN xs j) (b := rkN xs k) d
      omega
theorem arc_ivo {xs : List Int} (h : mcB xs = true) : ivo (acV xs xs.length) (acN xs xs.length) (acN xs xs.length) = ivo (arR xs) (acN xs xs.length) (acN xs xs.length) :=
  fmap_cong (fun k hk => by rw [ivE, ivE, befTo_cong (fun j hj => arc_bef h hk hj)])
theorem arc_cnt {xs : List Int} (a b : Nat) : ∀ m, m ≤ acN xs xs.length → cntP (arR xs) m a b = (mtE xs m a b : Int)
  | 0, _ => rfl
  | m+1, hm => by
    have ⟨e1, e2⟩ := arR_at (xs := xs) (t := m) (by omega)
    rw [cntP, arc_cnt a b m (by omega), mtE_succ, e1, e2]
    by_cases c : rnN xs (lkN xs m) / 2 = a ∧ rnN xs (rkN xs m) / 2 = b
    · rw [if_pos c, if_pos ⟨by omega, by omega⟩]; omega
    · rw [if_neg c, if_neg (fun d => c ⟨by omega, by omega⟩)]; omega
theorem arR_good {xs : List Int} (h : arB xs = true) : goodV (arR xs) (acN xs xs.length) = true := by
  have ⟨h1, h2⟩ := arB_iff.1 h
  have h3 := ac_half h1
  have h4 := mtD_le h1
  rw [goodV_iff]
  refine ⟨by omega, fun i hi => ?_⟩
  have r := arc_runs h1 hi
  rw [wrongB_no, (arR_at hi).1, (arR_at hi).2]
  omega
/-- the matrix of the order of the arcs is the matrix of the matching -/
theorem arc_mx {xs : List Int} (h : arB xs = true) : moL (acN xs xs.length : Int) (ivo (acV xs xs.length) (acN xs xs.length) (acN xs xs.length)) = mtmL xs ∧ (sets (ivo (acV xs xs.length) (acN xs xs.length) (acN xs xs.length))).length = mtD xs := by
  have h1 := (arB_iff.1 h).1
  have hl := mt_len h1
  have hc := canon_mx (cs := arR xs) (n := acN xs xs.length) (M := mtmL xs) (mt_good h1) (arR_good h) (arR_len xs) (fun j hj => by
    have r := arc_runs h1 hj
    rw [(arR_at hj).1, (arR_at hj).2, hl]
    omega) (fun a b ha hb => by
    rw [arc_cnt a b _ (Nat.le_refl _), mtmL, if_pos h1, sqM_at (by omega) (by omega)]; rfl)
  rw [arc_ivo h1]
  exact ⟨hc.2.2.2, by rw [hc.2.2.1, hl]⟩

/-- the least number that is greater than all of the first k -/
def unTo (l : List Int) : Nat → Nat
  | 0 => 0
  | k+1 => max (unTo l k) ((nth l k).toNat + 1)
/-- the first list that goes on a list so far, in which each longer beginning fits -/
def cnS (F : List Int → Bool) (lim : Nat) : Nat → List Int → Option (List Int)
  | 0, l => some l
  | d+1, l => find1 (fun x => if F (l ++ [(x : Int)]) then cnS F lim d (l ++ [(x : Int)]) else none) (min lim (unTo l l.length + 1))
theorem cnS_len {F : List Int → Bool} {lim : Nat} : ∀ {d : Nat} {l ys : List Int}, cnS F lim d l = some ys → ys.length = l.length + d
  | 0, l, ys, h => by simp only [cnS, Option.some.injEq] at h; rw [h]; rfl
  | d+1, l, ys, h => by
    simp only [cnS] at h
    obtain ⟨x, _, h1, _⟩ := find1_ex h
    split at h1
    · have := cnS_len h1
      rw [this, List.length_append]; simp; omega
    · cases h1
/-- are all numbers of a list less than a limit? -/
def LtL (lim : Nat) (l : List Int) : Prop := ∀ i, i < l.length → 0 ≤ nth l i ∧ nth l i < (lim : Int)
theorem LtL.snoc {lim : Nat} {l : List Int} (h : LtL lim l) {x : Nat} (hx : x < lim) : LtL lim (l ++ [(x : Int)]) := by
  intro i hi
  rw [List.length_append, List.length_singleton] at hi
  by_cases e : i = l.length
  · have : nth (l ++ [(x : Int)]) i = (x : Int) := by simp [nth, List.getD_eq_getElem?_getD, e]
    rw [this]; omega
  · have : nth (l ++ [(x : Int)]) i = nth l i := by simp [nth, List.getD_eq_getElem?_getD, List.getElem?_append_left (show i < l.length by omega)]
    rw [this]; exact h i (by omega)
theorem unTo_le {lim : Nat} {l : List Int} (h : LtL lim l) : ∀ k, k ≤ l.length → unTo l k ≤ lim
  | 0, _ => by simp [unTo]
  | k+1, hk => by
    have ih := unTo_le h k (by omega)
    have h1 := h k (by omega)
    simp only [unTo]
    omega

def memB (es : List Int) (i : Int) : Bool := (List.range es.length).any (fun k => nth es k == i)
theorem memB_iff {es : List Int} {i : Int} : memB es i = true ↔ ∃ k, k < es.length ∧ nth es k = i := by simp [memB]

/-- does the last element of a list stand to that with the index a, in both ways, as in the pattern? -/
def ptG (xs ys L : List Int) (a : Nat) : Bool :=
  (hasB (nth xs (nth L a).toNat) (nth L (L.length - 1)) == hasB (nth ys a) ((L.length - 1 : Nat) : Int)) && (hasB (nth xs (nth L (L.length - 1)).toNat) (nth L a) == hasB (nth ys (L.length - 1)) ((a : Nat) : Int))
def ptW (xs ys L : List Int) : Bool := (List.range L.length).all (ptG xs ys L)
/-- the first list that goes on a list so far and has the pattern -/
def fpS (xs ys : List Int) : Nat → List Int → Option (List Int)
  | 0, l => some l
  | d+1, l => find1 (fun i => if !memB l (i : Int) && ptW xs ys (l ++ [(i : Int)]) then fpS xs ys d (l ++ [(i : Int)]) else none) xs.length
theorem ptW_iff {xs ys L : List Int} : ptW xs ys L = true ↔ ∀ a, a < L.length → ptG xs ys L a = true := by simp [ptW]
theorem ptW_no {xs ys L : List Int} {a : Nat} (ha : a < L.length) (h : ptG xs ys L a = false) : ptW xs ys L = false := by
  rw [← Bool.not_eq_true, ptW_iff]
  intro h2
  rw [h2 a ha] at h; cases h
theorem fpS_len {xs ys : List Int} : ∀ {d : Nat} {l zs : List Int}, fpS xs ys d l = some zs → zs.length = l.length + d
  | 0, l, zs, h => by simp only [fpS, Option.some.injEq] at h; rw [h]; rfl
  | d+1, l, zs, h => by
    simp only [fpS] at h
    obtain ⟨x, _, h1, _⟩ := find1_ex h
    split at h1
    · have := fpS_len h1
      rw [this, List.length_append]; simp; omega
    · cases h1
theorem rel_at {n : Int} {xs : List Int} (hp : RelP n xs) {k : Nat} (hk : k < xs.length) : 0 ≤ nth xs k ∧ nth xs k ≤ 9223372036854775807 := ⟨hp.pos k hk, by have := hp.small k hk; omega⟩

/-- the set of the places below b whose elements are in x -/
def partTo (es : List Int) (x : Int) : Nat → Nat
  | 0 => 0
  | b+1 => if hasB x (nth es b) then partTo es x b ||| 2 ^ b else partTo es x b
theorem partTo_lt (es : List Int) (x : Int) : ∀ k, partTo es x k < 2 ^ k
  | 0 => by simp [partTo]
  | k+1 => by
    have h := partTo_lt es x k
    have h2 : 2 ^ k < 2 ^ (k+1) := two_lt (by omega)
    simp only [partTo]
    split
    · exact or_lt (by omega) h2
    · omega
theorem partTo_small (es : List Int) (x : Int) {k : Nat} (h : k ≤ 10) : partTo es x k < 1024 := by
  have h1 := partTo_lt es x k
  have h2 : 2 ^ k ≤ 2 ^ 10 := Nat.pow_le_pow_right (by omega) h
  omega
def partE (xs es : List Int) (a : Nat) : Int := ((partTo es (nth xs (nth es a).toNat) es.length : Nat) : Int)
def parts (xs es : List Int) (k : Nat) : List Int := fmap (partE xs es) k
theorem parts_len (xs es : List Int) (k : Nat) : (parts xs es k).length = k := fmap_len _ _
/-- the elements of a list are elements -/
structure Elems (n : Nat) (es : List Int) : Prop where
  len : es.length ≤ 10
  ok : ∀ k, k < es.length → ∃ i : Nat, i < n ∧ nth es k = (i : Int)
theorem inc_elems {n : Int} {xs es : List Int} (hp : RelP n xs) (h : incB n es = true) : Elems xs.length es := by
  have h1 := inc_len h hp.n0
  have h2 := hp.n1
  refine ⟨by omega, fun k hk => ?_⟩
  have h3 := okI_elem (incB_iff.1 h k hk)
  have h4 := hp.len
  obtain ⟨i, hi⟩ := Int.eq_ofNat_of_zero_le h3.1
  exact ⟨i, by omega, hi⟩

/-- the place at which an element stands in a list -/
def pl (es : List Int) (x : Nat) : Nat := ((List.range es.length).find? (fun i => nth es i == (x : Int))).getD 0
theorem pl_spec {n : Int} {es : List Int} (h : permB n es = true) {x : Nat} (hx : x < es.length) : pl es x < es.length ∧ nth es (pl es x) = (x : Int) := by
  obtain ⟨i, hi, e⟩ := perm_onto h hx
  have hs : ((List.range es.length).find? (fun i => nth es i == (x : Int))).isSome = true := by
    rw [List.find?_isSome]
    exact ⟨i, by simpa using hi, by simpa using e⟩
  obtain ⟨j, hj⟩ := Option.isSome_iff_exists.1 hs
  have h1 := List.find?_some hj
  have h2 := List.mem_of_find?_eq_some hj
  unfold pl
  rw [hj]
  simp only [Option.getD_some]
  exact ⟨by simpa using h2, by simpa using h1⟩
theorem pl_nth {n : Int} {es : List Int} (h : permB n es = true) {k x : Nat} (hk : k < es.length) (e : nth es k = (x : Int)) : pl es x = k := by
  have hx : x < es.length := by
    have := okN_elem ((permB_iff.1 h).2 k hk)
    have := (permB_iff.1 h).1
    omega
  have ⟨h1, h2⟩ := pl_spec h hx
  exact perm_inj h h1 hk (by rw [h2, e])
def olds (es : List Int) (k : Nat) : List Int := fmap (fun x => ((pl es x : Nat) : Int)) k
theorem olds_len (es : List Int) (k : Nat) : (olds es k).length = k := fmap_len _ _
theorem olds_nth (es : List Int) {k i : Nat} (h : i < k) : nth (olds es k) i = ((pl es i : Nat) : Int) := fmap_nth _ h
theorem olds_elems {n : Int} {xs es : List Int} (hp : RelP n xs) (h : permB n es = true) : Elems xs.length (olds es es.length) := by
  have h1 := (permB_iff.1 h).1
  have h2 := hp.len
  have h3 := hp.n1
  refine ⟨by rw [olds_len]; omega, fun k hk => ?_⟩
  rw [olds_len] at hk
  exact ⟨pl es k, by have := (pl_spec h hk).1; omega, olds_nth es hk⟩
/-- the set of the new names of the elements below m that are in x -/
def renTo (es : List Int) (x : Int) : Nat → Nat
  | 0 => 0
  | m+1 => if hasB x m then renTo es x m ||| 2 ^ (nth es m).toNat else renTo es x m
theorem renTo_lt {n : Int} {es : List Int} (h : permB n es = true) (hn : n ≤ 10) (x : Int) : ∀ m, m ≤ es.length → renTo es x m < 2 ^ 10
  | 0, _ => by simp [renTo]
  | m+1, hm => by
    have ih := renTo_lt h hn x m (by omega)
    have := okN_elem ((permB_iff.1 h).2 m (by omega))
    simp only [renTo]
    split
    · exact or_lt ih (two_lt (by omega))
    · exact ih
theorem renTo_bit (es : List Int) (x : Int) (b : Nat) : ∀ m, (renTo es x m).testBit b = true ↔ ∃ j, j < m ∧ hasB x j = true ∧ (nth es j).toNat = b
  | 0 => by simp [renTo]
  | m+1 => by
    have ih := renTo_bit es x b m
    simp only [renTo]
    cases hb : hasB x m
    · rw [if_neg (by simp), ih]
      constructor
      · rintro ⟨i, h1, h2, h3⟩
        exact ⟨i, by omega, h2, h3⟩
      · rintro ⟨i, h1, h2, h3⟩
        have : i ≠ m := fun e => by rw [e, hb] at h2; cases h2
        exact ⟨i, by omega, h2, h3⟩
    · rw [if_pos rfl, Nat.testBit_or, Bool.or_eq_true, ih, testBit_two, decide_eq_true_eq]
      constructor
      · rintro (⟨i, h1, h2, h3⟩ | h)
        · exact ⟨i, by omega, h2, h3⟩
        · exact ⟨m, by omega, hb, h⟩
      · rintro ⟨i, h1, h2, h3⟩
        by_cases e : i = m
        · subst e; exact .inr h3
        · exact .inl ⟨i, by omega, h2, h3⟩
theorem partTo_bit (es : List Int) (x : Int) (b : Nat) : ∀ k, (partTo es x k).testBit b = true ↔ b < k ∧ hasB x (nth es b) = true
  | 0 => by simp [partTo]
  | k+1 => by
    have ih := partTo_bit es x b k
    simp only [partTo]
    cases hb : hasB x (nth es k)
    · rw [if_neg (by simp), ih]
      constructor
      · rintro ⟨h1, h2⟩
        exact ⟨by omega, h2⟩
      · rintro ⟨h1, h2⟩
        have : b ≠ k := fun e => by rw [e, hb] at h2; cases h2
        exact ⟨by omega, h2⟩
    · rw [if_pos rfl, Nat.testBit_or, Bool.or_eq_true, ih, testBit_two, decide_eq_true_eq]
      constructor
      · rintro (⟨h1, h2⟩ | h)
        · exact ⟨by omega, h2⟩
        · subst h; exact ⟨by omega, hb⟩
      · rintro ⟨h1, h2⟩
        by_cases e : k = b
        · exact .inr e
        · exact .inl ⟨by omega, h2⟩
def renE (xs es : List Int) (a : Nat) : Int := ((renTo es (nth xs (pl es a)) es.length : Nat) : Int)
def rens (xs es : List Int) : List Int := fmap (renE xs es) es.length
/-- both ways of renaming give the same sets -/
theorem ren_parts {n : Int} {xs es : List Int} (h : permB n es = true) : parts xs (olds es es.length) es.length = rens xs es := by
  unfold parts rens fmap
  apply List.map_congr_left
  intro a ha
  simp only [List.mem_range] at ha
  unfold partE renE
  congr 1
  rw [olds_len, olds_nth es ha, Int.toNat_natCast]
  apply Nat.eq_of_testBit_eq
  intro b
  rw [Bool.eq_iff_iff, partTo_bit, renTo_bit]
  constructor
  · rintro ⟨hb, hh⟩
    rw [olds_nth es hb] at hh
    have ⟨h1, h2⟩ := pl_spec h hb
    exact ⟨pl es b, h1, hh, by rw [h2]; rfl⟩
  · rintro ⟨j, hj, hh, e⟩
    have h0 := okN_elem ((permB_iff.1 h).2 j hj)
    have hl := (permB_iff.1 h).1
    have hb : b < es.length := by omega
    refine ⟨hb, ?_⟩
    have e2 : nth es j = (b : Int) := by omega
    rw [olds_nth es hb, pl_nth h hj e2]
    exact hh
def okR (n : Int) (xs es : List Int) : Bool := relB n xs && permB n es
def renN (n : Int) (xs es : List Int) : Int := if okR n xs es then n else 0
def renL (n : Int) (xs es : List Int) : List Int := if okR n xs es then rens xs es else []
theorem renL_len (n : Int) (xs es : List Int) : (renL n xs es).length ≤ 1048576 := by
  unfold renL
  split
  · rename_i h
    simp only [okR, Bool.and_eq_true] at h
    have hp := relB_p h.1
    have := (permB_iff.1 h.2).1
    have := hp.n1
    rw [rens, fmap_len]
    omega
  · simp

theorem nth_snoc_end (l : List Int) (x : Int) : nth (l ++ [x]) l.length = x := by
  simp [nth, List.getD_eq_getElem?_getD]
theorem ptG_at {xs ys l : List Int} {i : Nat} {k : Nat} (h : k < l.length) : ptG xs ys (l ++ [(i : Int)]) k = ((hasB (nth xs (nth l k).toNat) (i : Int) == hasB (nth ys k) (l.length : Int)) && (hasB (nth xs i) (nth l k) == hasB (nth ys l.length) (k : Int))) := by
  simp only [ptG, List.length_append, List.length_singleton, Nat.add_sub_cancel, nth_snoc_end, nth_snoc_lt h, Int.toNat_natCast]
theorem ptG_end {xs ys l : List Int} {i : Nat} : ptG xs ys (l ++ [(i : Int)]) l.length = (hasB (nth xs i) (i : Int) == hasB (nth ys l.length) (l.length : Int)) := by
  simp only [ptG, List.length_append, List.length_singleton, Nat.add_sub_cancel, nth_snoc_end, Int.toNat_natCast, Bool.and_self]
theorem ptW_snoc {xs ys l : List Int} {i : Nat} : ptW xs ys (l ++ [(i : Int)]) = true ↔ (∀ k, k < l.length → ptG xs ys (l ++ [(i : Int)]) k = true) ∧ (hasB (nth xs i) (i : Int) == hasB (nth ys l.length) (l.length : Int)) = true := by
  rw [ptW_iff, ← ptG_end]
  constructor
  · intro h
    exact ⟨fun k hk => h k (by simp; omega), h _ (by simp)⟩
  · rintro ⟨h1, h2⟩ a ha
    rw [List.length_append, List.length_singleton] at ha
    by_cases e : a = l.length
    · rw [e]; exact h2
    · exact h1 a (by omega)

/-- a list of different elements that stand to each other as in the pattern -/
structure PtOk (xs ys L : List Int) : Prop where
  el : ∀ k, k < L.length → ∃ i : Nat, i < xs.length ∧ nth L k = (i : Int)
  ne : ∀ a b, a < L.length → b < L.length → nth L a = nth L b → a = b
  rel : ∀ a b : Nat, a < L.length → b < L.length → hasB (nth xs (nth L a).toNat) (nth L b) = hasB (nth ys a) (b : Int)
theorem memB_not {l : List Int} {i : Int} : memB l i = false ↔ ∀ k, k < l.length → nth l k ≠ i := by
  rw [← Bool.not_eq_true, memB, List.any_eq_true]
  constructor
  · intro h k hk e
    exact h ⟨k, by simpa using hk, by simpa using e⟩
  · rintro h ⟨k, hk, e⟩
    exact h k (by simpa using hk) (by simpa using e)
theorem pt_snoc {xs ys l : List Int} {i : Nat} (hi : i < xs.length) : (PtOk xs ys l ∧ memB l (i : Int) = false ∧ ptW xs ys (l ++ [(i : Int)]) = true) ↔ PtOk xs ys (l ++ [(i : Int)]) := by
  have hl : (l ++ [(i : Int)]).length = l.length + 1 := by simp
  have hend := nth_snoc_end l (i : Int)
  have hlo : ∀ k, k < l.length → nth (l ++ [(i : Int)]) k = nth l k := fun k hk => nth_snoc_lt hk
  constructor
  · rintro ⟨h, hm, hw⟩
    rw [ptW_iff, hl] at hw
    have hg : ∀ a, a ≤ l.length → hasB (nth xs (nth (l ++ [(i : Int)]) a).toNat) (i : Int) = hasB (nth ys a) (l.length : Int) ∧ hasB (nth xs i) (nth (l ++ [(i : Int)]) a) = hasB (nth ys l.length) (a : Int) := fun a ha => by
      have := hw a (by omega)
      rw [ptG, hl, Nat.add_sub_cancel, hend, Bool.and_eq_true, beq_iff_eq, beq_iff_eq, Int.toNat_natCast] at this
      exact this
    refine ⟨fun k hk => ?_, fun a b ha hb e => ?_, fun a b ha hb => ?_⟩
    · by_cases e : k < l.length
      · rw [hlo k e]; exact h.el k e
      · obtain rfl : k = l.length := by omega
        exact ⟨i, hi, hend⟩
    · by_cases ea : a < l.length <;> by_cases eb : b < l.length
      · rw [hlo a ea, hlo b eb] at e; exact h.ne a b ea eb e
      · obtain rfl : b = l.length := by omega
        rw [hlo a ea, hend] at e
        exact absurd e (memB_not.1 hm a ea)
      · obtain rfl : a = l.length := by omega
        rw [hlo b eb, hend] at e
        exact absurd e.symm (memB_not.1 hm b eb)
      · omega
    · by_cases eb : b < l.length
      · by_cases ea : a < l.length
        · rw [hlo a ea, hlo b eb]; exact h.rel a b ea eb
        · obtain rfl : a = l.length := by omega
          rw [hend, Int.toNat_natCast]
          exact (hg b (by omega)).2
      · obtain rfl : b = l.length := by omega
        rw [hend]
        exact (hg a (by omega)).1
  · intro h
    refine ⟨⟨fun k hk => ?_, fun a b ha hb e => ?_, fun a b ha hb => ?_⟩, ?_, ?_⟩
    · have := h.el k (by omega); rw [hlo k hk] at this; exact this
    · exact h.ne a b (by omega) (by omega) (by rw [hlo a ha, hlo b hb]; exact e)
    · have := h.rel a b (by omega) (by omega); rw [hlo a ha, hlo b hb] at this; exact this
    · rw [memB_not]
      intro k hk e
      have := h.ne k l.length (by omega) (by omega) (by rw [hlo k hk, hend]; exact e)
      omega
    · rw [ptW_iff, hl]
      intro a ha
      rw [ptG, hl, Nat.add_sub_cancel, hend, Bool.and_eq_true, beq_iff_eq, beq_iff_eq]
      have h1 := h.rel a l.length (by omega) (by omega)
      have h2 := h.rel l.length a (by omega) (by omega)
      rw [hend] at h1 h2
      exact ⟨h1, h2⟩
theorem PtOk.nil (xs ys : List Int) : PtOk xs ys [] := ⟨fun k hk => by simp at hk, fun a b ha => by simp at ha, fun a b ha => by simp at ha⟩
theorem fpS_ok {xs ys : List Int} : ∀ {d : Nat} {l zs : List Int}, PtOk xs ys l → fpS xs ys d l = some zs → PtOk xs ys zs
  | 0, l, zs, h, e => by simp only [fpS, Option.some.injEq] at e; rw [← e]; exact h
  | d+1, l, zs, h, e => by
    simp only [fpS] at e
    obtain ⟨i, hi, h1, _⟩ := find1_ex e
    split at h1
    · rename_i hc
      rw [Bool.and_eq_true, Bool.not_eq_true'] at hc
      exact fpS_ok ((pt_snoc hi).1 ⟨h, hc.1, hc.2⟩) h1
    · cases h1
theorem find1_is {α : Type} {f : Nat → Option α} {n k : Nat} (hk : k < n) (h : (f k).isSome = true) : (find1 f n).isSome = true := by
  cases e : find1 f n with
  | some x => rfl
  | none =>
    rw [find1, List.findSome?_eq_none_iff] at e
    have := e k (by simpa using hk)
    rw [this] at h; cases h
theorem pt_take {xs ys L : List Int} (h : PtOk xs ys L) : ∀ k, k ≤ L.length → PtOk xs ys (L.take k) := fun k hk => by
  have hl : (L.take k).length = k := by simp; omega
  have hn : ∀ j, j < k → nth (L.take k) j = nth L j := fun j hj => by simp [nth, hj]
  exact ⟨fun j hj => by rw [hl] at hj; rw [hn j hj]; exact h.el j (by omega), fun a b ha hb e => by rw [hl] at ha hb; rw [hn a ha, hn b hb] at e; exact h.ne a b (by omega) (by omega) e, fun a b ha hb => by rw [hl] at ha hb; rw [hn a ha, hn b hb]; exact h.rel a b (by omega) (by omega)⟩
theorem fpS_some {xs ys L : List Int} (h : PtOk xs ys L) : ∀ (d k : Nat), k + d = L.length → (fpS xs ys d (L.take k)).isSome = true
  | 0, k, _ => rfl
  | d+1, k, e => by
    obtain ⟨i, hi, ei⟩ := h.el k (by omega)
    have hs : L.take (k+1) = L.take k ++ [(i : Int)] := by
      rw [List.take_add_one, ← ei]
      congr 1
      simp [nth, List.getElem?_eq_getElem (show k < L.length by omega)]
    have hp := pt_take h (k+1) (by omega)
    rw [hs] at hp
    have ⟨_, h1, h2⟩ := (pt_snoc hi).2 hp
    simp only [fpS]
    refine find1_is hi ?_
    rw [h1, h2]
    simp only [Bool.not_false, Bool.and_self, if_true]
    rw [← hs]
    exact fpS_some h d (k+1) (by omega)
/-- a renamed relation stands in the one that was renamed -/
theorem ren_pt {n : Int} {xs es : List Int} (hx : relB n xs = true) (h : permB n es = true) : PtOk xs (rens xs es) (olds es es.length) := by
  have hp := relB_p hx
  have hl := (permB_iff.1 h).1
  have hxl := hp.len
  have hle : es.length = xs.length := by omega
  have hbit : ∀ a b : Nat, a < es.length → b < es.length → hasB (nth (rens xs es) a) (b : Int) = hasB (nth xs (pl es a)) ((pl es b : Nat) : Int) := fun a b ha hb => by
    rw [← ren_parts h, show nth (parts xs (olds es es.length) es.length) a = partE xs (olds es es.length) a from fmap_nth _ ha, partE, olds_len, olds_nth es ha, Int.toNat_natCast, hasB, Int.toNat_natCast, Int.toNat_natCast, Bool.eq_iff_iff, partTo_bit, olds_nth es hb]
    exact ⟨fun h => h.2, fun h => ⟨hb, h⟩⟩
  refine ⟨fun k hk => ?_, fun a b ha hb e => ?_, fun a b ha hb => ?_⟩
  · rw [olds_len] at hk
    exact ⟨pl es k, by have := (pl_spec h hk).1; omega, olds_nth es hk⟩
  · rw [olds_len] at ha hb
    rw [olds_nth es ha, olds_nth es hb] at e
    have h1 := (pl_spec h ha).2
    have h2 := (pl_spec h hb).2
    have : pl es a = pl es b := by omega
    rw [this] at h1
    omega
  · rw [olds_len] at ha hb
    rw [olds_nth es ha, olds_nth es hb, Int.toNat_natCast, hbit a b ha hb]
theorem ren_has {n : Int} {xs es : List Int} (hx : relB n xs = true) (h : permB n es = true) {i j : Nat} (hi : i < es.length) (hj : j < es.length) : hasB (nth xs i) (j : Int) = hasB (nth (rens xs es) (nth es i).toNat) (nth es j) := by
  have hok := ren_pt hx h
  have e1 := okN_elem ((permB_iff.1 h).2 i hi)
  have e2 := okN_elem ((permB_iff.1 h).2 j hj)
  have hl := (permB_iff.1 h).1
  obtain ⟨a, ea⟩ := Int.eq_ofNat_of_zero_le e1.1
  obtain ⟨b, eb⟩ := Int.eq_ofNat_of_zero_le e2.1
  have ha : a < es.length := by omega
  have hb : b < es.length := by omega
  have h1 := hok.rel a b (by rw [olds_len]; exact ha) (by rw [olds_len]; exact hb)
  rw [olds_nth es ha, olds_nth es hb, Int.toNat_natCast, pl_nth h hi ea, pl_nth h hj eb] at h1
  rw [ea, eb, Int.toNat_natCast]
  exact h1
/-- renamed relations are of the same kind -/
theorem ren_same {n : Int} {xs es : List Int} (hx : relB n xs = true) (h : permB n es = true) : (fpS xs (rens xs es) (rens xs es).length []).isSome = true := by
  have hok := ren_pt hx h
  have := fpS_some hok es.length 0 (by rw [olds_len]; omega)
  rw [show (rens xs es).length = es.length from fmap_len _ _]
  exact this

theorem ren_rel {n : Int} {xs es : List Int} (hx : relB n xs = true) (h : permB n es = true) : relB n (rens xs es) = true := by
  have hp := relB_p hx
  have hl := (permB_iff.1 h).1
  have hrl : (rens xs es).length = es.length := fmap_len _ _
  have hn0 := hp.n0
  have hn1 := hp.n1
  refine relB_iff.2 ⟨⟨by omega, by omega⟩, by omega, ?_⟩
  simp only [allB, List.all_eq_true]
  intro x hx2
  obtain ⟨k, hk, rfl⟩ := mem_nth hx2
  rw [hrl] at hk
  have e : nth (rens xs es) k = ((partTo (olds es es.length) (nth xs (pl es k)) es.length : Nat) : Int) := by
    rw [← ren_parts h, show nth (parts xs (olds es es.length) es.length) k = partE xs (olds es es.length) k from fmap_nth _ hk, partE, olds_len, olds_nth es hk, Int.toNat_natCast]
  have hlt := partTo_lt (olds es es.length) (nth xs (pl es k)) es.length
  have e2 : ((2 ^ es.length : Nat) : Int) = (2 : Int) ^ es.length := by simp
  rw [e, inB_iff, show n.toNat = es.length by omega]
  omega

/-- the ways from i to j over elements below k -/
def pw (xs : List Int) : Nat → Nat → Nat → Bool
  | 0, i, j => hasB (nth xs i) (j : Int)
  | k+1, i, j => pw xs k i j || (pw xs k i k && pw xs k k j)
theorem or_self_int {x : Int} (h : 0 ≤ x) : ((x.toNat ||| x.toNat : Nat) : Int) = x := by rw [Nat.or_self]; omega
theorem clRow_nth {xs : List Int} (h : Small xs) {k : Nat} (hk : k < xs.length) : ∀ m, m ≤ xs.length → ∀ i, i < xs.length → nth (clRow xs k m) i = if i < m ∧ hasB (nth xs i) (k : Int) = true then (((nth xs i).toNat ||| (nth xs k).toNat : Nat) : Int) else nth xs i
  | 0, _, i, _ => by simp [clRow]
  | m+1, hm, i, hi => by
    have ih := clRow_nth h hk m (by omega)
    have h1 := ih m (by omega)
    rw [if_neg (by omega)] at h1
    have h2 := ih k hk
    have h3 : nth (clRow xs k m) k = nth xs k := by
      rw [h2]
      split
      · exact or_self_int (h k hk).1
      · rfl
    have hl := clRow_len xs k m
    simp only [clRow, clStep]
    rw [h1, h3]
    cases hb : hasB (nth xs m) (k : Int)
    · rw [if_neg (by simp), ih i hi]
      by_cases e : i = m
      · subst e; simp [hb]
      · have : i < m + 1 ↔ i < m := by omega
        simp [this]
    · rw [if_pos rfl, nth_set (by omega), ih i hi]
      by_cases e : m = i
      · subst e; simp [hb]
      · have : i < m + 1 ↔ i < m := by omega
        simp [e, this]
theorem hasB_or {a b : Nat} {j : Nat} : hasB ((a ||| b : Nat) : Int) (j : Int) = (a.testBit j || b.testBit j) := by
  show (a ||| b).testBit j = _
  rw [Nat.testBit_or]
theorem clAll_pw {xs : List Int} (h : Small xs) : ∀ k, k ≤ xs.length → ∀ i, i < xs.length → ∀ j : Nat, hasB (nth (clAll xs k) i) (j : Int) = pw xs k i j
  | 0, _, i, _, j => rfl
  | k+1, hk, i, hi, j => by
    have ih := clAll_pw h k (by omega)
    have hs := clAll_small h k (by omega)
    have hl := clAll_len xs k
    simp only [clAll]
    rw [clRow_nth hs (by omega) xs.length (by omega) i (by omega)]
    simp only [hi, true_and, ih i hi k, pw]
    cases hb : pw xs k i k
    · rw [if_neg (by simp), ih i hi j]; simp
    · rw [if_pos rfl, hasB_or]
      have e1 := ih i hi j
      have e2 := ih k (by omega) j
      simp only [Bool.true_and]
      rw [← e1, ← e2]; rfl
theorem pw_trans {xs : List Int} {i m j : Nat} : ∀ k, m < k → pw xs k i m = true → pw xs k m j = true → pw xs k i j = true
  | 0, h, _, _ => by omega
  | k+1, h, h1, h2 => by
    simp only [pw, Bool.or_eq_true, Bool.and_eq_true] at h1 h2 ⊢
    by_cases e : m = k
    · subst e
      have a1 : pw xs m i m = true := h1.elim id And.left
      have a2 : pw xs m m j = true := h2.elim id And.right
      exact .inr ⟨a1, a2⟩
    · have hm : m < k := by omega
      rcases h1 with h1 | ⟨h1, h1'⟩
      · rcases h2 with h2 | ⟨h2, h2'⟩
        · exact .inl (pw_trans k hm h1 h2)
        · exact .inr ⟨pw_trans k hm h1 h2, h2'⟩
      · rcases h2 with h2 | ⟨h2, h2'⟩
        · exact .inr ⟨h1, pw_trans k hm h1' h2⟩
        · exact .inr ⟨h1, h2'⟩
theorem pw_of {xs : List Int} {i j : Nat} (h : hasB (nth xs i) (j : Int) = true) : ∀ k, pw xs k i j = true
  | 0 => h
  | k+1 => by simp [pw, pw_of h k]
/-- a set with each element whose better ones it has -/
def DC (xs : List Int) (S : Nat) : Prop := ∀ i j, i < xs.length → j < xs.length → hasB (nth xs i) (j : Int) = true → S.testBit j = true → S.testBit i = true
theorem pw_dc {xs : List Int} {S : Nat} (hd : DC xs S) : ∀ k, k ≤ xs.length → ∀ i j, i < xs.length → j < xs.length → pw xs k i j = true → S.testBit j = true → S.testBit i = true
  | 0, _, i, j, hi, hj, h, hs => hd i j hi hj h hs
  | k+1, hk, i, j, hi, hj, h, hs => by
    simp only [pw, Bool.or_eq_true, Bool.and_eq_true] at h
    rcases h with h | ⟨h1, h2⟩
    · exact pw_dc hd k (by omega) i j hi hj h hs
    · exact pw_dc hd k (by omega) i k hi (by omega) h1 (pw_dc hd k (by omega) k j (by omega) hj h2 hs)
theorem pw_ready {xs : List Int} {S r : Nat} (hd : DC xs S) (hr : ∀ i, i < xs.length → hasB (nth xs i) (r : Int) = true → S.testBit i = true) : ∀ k, k ≤ xs.length → ∀ i, i < xs.length → pw xs k i r = true → S.testBit i = true
  | 0, _, i, hi, h => hr i hi h
  | k+1, hk, i, hi, h => by
    simp only [pw, Bool.or_eq_true, Bool.and_eq_true] at h
    rcases h with h | ⟨h1, h2⟩
    · exact pw_ready hd hr k (by omega) i hi h
    · exact pw_dc hd k (by omega) i k hi (by omega) h1 (pw_ready hd hr k (by omega) k (by omega) h2)
/-- the closed relation -/
def clo (xs : List Int) : List Int := clAll xs xs.length
theorem clo_len (xs : List Int) : (clo xs).length = xs.length := clAll_len _ _
theorem clo_has {xs : List Int} (h : Small xs) {i : Nat} (hi : i < xs.length) (j : Nat) : hasB (nth (clo xs) i) (j : Int) = pw xs xs.length i j := clAll_pw h _ (Nat.le_refl _) i hi j

def covE (xs : List Int) (i : Nat) : Int := ((sub (nth xs i).toNat (aboveTo xs (nth xs i) xs.length) : Nat) : Int)
def covs (xs : List Int) (k : Nat) : List Int := fmap (covE xs) k
theorem covs_len (xs : List Int) (k : Nat) : (covs xs k).length = k := fmap_len _ _
def covN (n : Int) (xs : List Int) : Int := if ordB n xs then n else 0
def covL (n : Int) (xs : List Int) : List Int := if ordB n xs then covs xs xs.length else []
theorem covL_len (n : Int) (xs : List Int) : (covL n xs).length ≤ 1048576 := by
  unfold covL
  split
  · rename_i h
    have hp := ord_rel h
    have := hp.len
    have := hp.n1
    rw [covs_len]
    omega
  · simp

/-- a list of sets within the elements of a relation is one -/
theorem rel_bits {n : Int} {xs ys : List Int} (h : relB n xs = true) (hl : ys.length = xs.length) (h0 : ∀ k, k < xs.length → 0 ≤ nth ys k) (h1 : ∀ k, k < xs.length → ∀ j : Nat, hasB (nth ys k) (j : Int) = true → j < xs.length) : relB n ys = true := by
  have hp := relB_p h
  have e : n.toNat = xs.length := by have := hp.len; omega
  rw [relB_iff]
  refine ⟨⟨hp.n0, hp.n1⟩, by rw [hl]; exact hp.len, ?_⟩
  rw [e]
  refine allB_of (fun k hk => ⟨h0 k (by omega), ?_⟩)
  have h2 : (nth ys k).toNat < 2 ^ xs.length := Nat.lt_pow_two_of_testBit _ (fun j hj => by
    cases hb : (nth ys k).toNat.testBit j
    · rfl
    · have := h1 k (by omega) j (by simpa [hasB] using hb)
      omega)
  have e2 : ((2 ^ xs.length : Nat) : Int) = (2 : Int) ^ xs.length := by simp
  have := h0 k (by omega)
  omega
/-- two relations with the same pairs are one -/
theorem rel_ext {n : Int} {xs ys : List Int} (h : relB n xs = true) (h2 : relB n ys = true) (h3 : ∀ i j : Nat, i < xs.length → j < xs.length → hasB (nth xs i) (j : Int) = hasB (nth ys i) (j : Int)) : xs = ys := by
  have hp := relB_p h
  have hq := relB_p h2
  have hl : xs.length = ys.length := by have := hp.len; have := hq.len; omega
  refine nths_eq hl (fun k hk => ?_)
  refine bits_eq (n := xs.length) (hp.pos k hk) (hp.lt k hk) (hq.pos k (by omega)) (by have := hq.lt k (by omega); rwa [← hl] at this) (fun j hj => h3 k j hk hj)
/-- ways are in each transitive relation that has the pairs -/
theorem pw_min {xs : List Int} {R : Nat → Nat → Prop} (h1 : ∀ i j, i < xs.length → j < xs.length → hasB (nth xs i) (j : Int) = true → R i j) (h2 : ∀ i m j, i < xs.length → m < xs.length → j < xs.length → R i m → R m j → R i j) : ∀ k, k ≤ xs.length → ∀ i j, i < xs.length → j < xs.length → pw xs k i j = true → R i j
  | 0, _, i, j, hi, hj, h => h1 i j hi hj h
  | k+1, hk, i, j, hi, hj, h => by
    simp only [pw, Bool.or_eq_true, Bool.and_eq_true] at h
    rcases h with h | ⟨h3, h4⟩
    · exact pw_min h1 h2 k (by omega) i j hi hj h
    · exact h2 i k j hi (by omega) hj (pw_min h1 h2 k (by omega) i k hi (by omega) h3) (pw_min h1 h2 k (by omega) k j (by omega) hj h4)
theorem pw_lt {n : Int} {xs : List Int} (hp : RelP n xs) : ∀ k, k ≤ xs.length → ∀ i j, i < xs.length → pw xs k i j = true → j < xs.length
  | 0, _, i, j, hi, h => has_lt hp hi h
  | k+1, hk, i, j, hi, h => by
    simp only [pw, Bool.or_eq_true, Bool.and_eq_true] at h
    rcases h with h | ⟨_, h4⟩
    · exact pw_lt hp k (by omega) i j hi h
    · exact pw_lt hp k (by omega) k j (by omega) h4
theorem clo_rel {n : Int} {xs : List Int} (h : relB n xs = true) : relB n (clo xs) = true :=
  rel_bits h (clo_len xs) (fun k hk => (clAll_small (relB_p h).sm _ (Nat.le_refl _) k (by rw [clAll_len]; exact hk)).1) (fun k hk j hb => by
    rw [clo_has (relB_p h).sm hk] at hb
    exact pw_lt (relB_p h) _ (Nat.le_refl _) k j hk hb)
theorem clo_tr {n : Int} {xs : List Int} (h : relB n xs = true) {i m j : Nat} (hi : i < xs.length) (hm : m < xs.length) (h1 : hasB (nth (clo xs) i) (m : Int) = true) (h2 : hasB (nth (clo xs) m) (j : Int) = true) : hasB (nth (clo xs) i) (j : Int) = true := by
  rw [clo_has (relB_p h).sm hi] at h1 ⊢
  rw [clo_has (relB_p h).sm hm] at h2
  exact pw_trans _ hm h1 h2
theorem clo_of {n : Int} {xs : List Int} (h : relB n xs = true) {i j : Nat} (hi : i < xs.length) (h1 : hasB (nth xs i) (j : Int) = true) : hasB (nth (clo xs) i) (j : Int) = true := by
  rw [clo_has (relB_p h).sm hi]
  exact pw_of h1 _
/-- the closed relation is in each transitive one that has the pairs -/
theorem clo_min {n : Int} {xs : List Int} (h : relB n xs = true) {R : Nat → Nat → Prop} (h1 : ∀ i j, i < xs.length → j < xs.length → hasB (nth xs i) (j : Int) = true → R i j) (h2 : ∀ i m j, i < xs.length → m < xs.length → j < xs.length → R i m → R m j → R i j) {i j : Nat} (hi : i < xs.length) (hj : j < xs.length) (h3 : hasB (nth (clo xs) i) (j : Int) = true) : R i j := by
  rw [clo_has (relB_p h).sm hi] at h3
  exact pw_min h1 h2 _ (Nat.le_refl _) i j hi hj h3
theorem clo_clo {n : Int} {xs : List Int} (h : relB n xs = true) : clo (clo xs) = clo xs := by
  have hl := clo_len xs
  refine rel_ext (clo_rel (clo_rel h)) (clo_rel h) (fun i j hi hj => ?_)
  rw [clo_len, clo_len] at hi hj
  rw [Bool.eq_iff_iff]
  refine ⟨fun h3 => ?_, fun h3 => clo_of (clo_rel h) (by omega) h3⟩
  exact clo_min (clo_rel h) (R := fun i j => hasB (nth (clo xs) i) (j : Int) = true) (fun i j _ _ h => h) (fun i m j hi hm _ h1 h2 => clo_tr h (by omega) (by omega) h1 h2) (by omega) (by omega) h3
theorem clo_ord {n : Int} {xs : List Int} (h : ordB n xs = true) : clo xs = xs := by
  have hr := (ordB_iff.1 h).1
  refine rel_ext (clo_rel hr) hr (fun i j hi hj => ?_)
  rw [clo_len] at hi hj
  rw [Bool.eq_iff_iff]
  refine ⟨fun h3 => ?_, fun h3 => clo_of hr hi h3⟩
  exact clo_min hr (R := fun i j => hasB (nth xs i) (j : Int) = true) (fun i j _ _ h => h) (fun i m j hi hm hj h1 h2 => ((ord_iff hr).1 h).2 i m j hi hm hj h1 h2) hi hj h3
/-- a closed relation is an order unless something is above itself -/
theorem clo_loop {n : Int} {xs : List Int} (h : relB n xs = true) : ordB n (clo xs) = true ↔ ∀ k, k < xs.length → hasB (nth (clo xs) k) (k : Int) = false := by
  rw [ord_iff (clo_rel h), clo_len]
  refine ⟨fun h1 => h1.1, fun h1 => ⟨h1, fun k j i hk hj hi h3 h4 => clo_tr h hk hj h3 h4⟩⟩
theorem cov_bit {xs : List Int} {i j : Nat} (hi : i < xs.length) : hasB (nth (covs xs xs.length) i) (j : Int) = true ↔ hasB (nth xs i) (j : Int) = true ∧ ∀ m : Nat, m < xs.length → hasB (nth xs i) (m : Int) = true → hasB (nth xs m) (j : Int) = false := by
  rw [show nth (covs xs xs.length) i = covE xs i from fmap_nth _ hi, covE, hasB, Int.toNat_natCast, Int.toNat_natCast, testBit_sub, Bool.and_eq_true, Bool.not_eq_true']
  refine and_congr (by simp [hasB]) ?_
  rw [← Bool.not_eq_true, aboveTo_bit]
  constructor
  · intro h m hm h1
    cases e : hasB (nth xs m) (j : Int)
    · rfl
    · exact absurd ⟨m, hm, h1, by simpa [hasB] using e⟩ h
  · rintro h ⟨m, hm, h1, h2⟩
    have := h m hm h1
    simp only [hasB, Int.toNat_natCast] at this
    rw [h2] at this; cases this
theorem cov_rel {n : Int} {xs : List Int} (h : ordB n xs = true) : relB n (covs xs xs.length) = true := by
  have hr := (ordB_iff.1 h).1
  refine rel_bits hr (covs_len _ _) (fun k hk => ?_) (fun k hk j hb => has_lt (relB_p hr) hk ((cov_bit hk).1 hb).1)
  rw [show nth (covs xs xs.length) k = covE xs k from fmap_nth _ hk, covE]
  omega
/-- what is above is numerically less, what is below, too -/
theorem ord_less {n : Int} {xs : List Int} (h : ordB n xs = true) {i m : Nat} (hi : i < xs.length) (hm : m < xs.length) (h1 : hasB (nth xs i) (m : Int) = true) : (nth xs m).toNat < (nth xs i).toNat := by
  have hr := (ordB_iff.1 h).1
  have hs := sub_zero.1 ((okAtB_iff.1 ((ordB_iff.1 h).2 i hi)).2 m hm h1)
  have hle : (nth xs m).toNat ≤ (nth xs i).toNat := Nat.le_of_testBit hs
  rcases Nat.lt_or_eq_of_le hle with e | e
  · exact e
  · have h2 := ((ord_iff hr).1 h).1 m hm
    simp only [hasB, Int.toNat_natCast] at h1 h2
    rw [e, h1] at h2; cases h2
theorem clo_cov_way {n : Int} {xs : List Int} (h : ordB n xs = true) : ∀ (s : Nat) (i j : Nat), i < xs.length → j < xs.length → (nth xs i).toNat + (nth (belows xs xs.length) j).toNat ≤ s → hasB (nth xs i) (j : Int) = true → hasB (nth (clo (covs xs xs.length)) i) (j : Int) = true := by
  have hr := (ordB_iff.1 h).1
  have hcr := cov_rel h
  have hm := (ord_mir hr).trans h
  have hbl := belows_len xs xs.length
  intro s
  induction s with
  | zero =>
    intro i j hi hj hs hb
    have := ord_less h hi hj hb
    omega
  | succ s ih =>
    intro i j hi hj hs hb
    by_cases hc : hasB (nth (covs xs xs.length) i) (j : Int) = true
    · exact clo_of hcr (by rw [covs_len]; exact hi) hc
    · have hex : ∃ m : Nat, m < xs.length ∧ hasB (nth xs i) (m : Int) = true ∧ hasB (nth xs m) (j : Int) = true := by
        rcases Classical.em (∃ m : Nat, m < xs.length ∧ hasB (nth xs i) (m : Int) = true ∧ hasB (nth xs m) (j : Int) = true) with e | e
        · exact e
        · exfalso
          refine hc ((cov_bit hi).2 ⟨hb, fun m hm h1 => ?_⟩)
          cases e2 : hasB (nth xs m) (j : Int)
          · rfl
          · exact absurd ⟨m, hm, h1, e2⟩ e
      obtain ⟨m, hm1, h1, h2⟩ := hex
      have l1 := ord_less h hi hm1 h1
      have l2 := ord_less (n := n) (xs := belows xs xs.length) hm (i := j) (m := m) (by omega) (by omega) (by rw [mir_bit hj hm1]; exact h2)
      exact clo_tr hcr (by rw [covs_len]; exact hi) (by rw [covs_len]; exact hm1) (ih i m hi hm1 (by omega) h1) (ih m j hm1 hj (by omega) h2)
/-- an order is closed from its covers -/
theorem clo_cov {n : Int} {xs : List Int} (h : ordB n xs = true) : clo (covs xs xs.length) = xs := by
  have hr := (ordB_iff.1 h).1
  have hcr := cov_rel h
  refine rel_ext (clo_rel hcr) hr (fun i j hi hj => ?_)
  rw [clo_len, covs_len] at hi hj
  rw [Bool.eq_iff_iff]
  refine ⟨fun h3 => ?_, fun h3 => clo_cov_way h _ i j hi hj (Nat.le_refl _) h3⟩
  refine clo_min hcr (R := fun i j => hasB (nth xs i) (j : Int) = true) (fun i j hi hj h => ?_) (fun i m j hi hm hj h1 h2 => ?_) (by rw [covs_len]; exact hi) (by rw [covs_len]; exact hj) h3
  · rw [covs_len] at hi hj
    exact ((cov_bit hi).1 h).1
  · rw [covs_len] at hi hm hj
    exact ((ord_iff hr).1 h).2 i m j hi hm hj h1 h2
theorem bit_less {y j : Nat} (h : y.testBit j = true) (m : Nat) : (y - 2 ^ j).testBit m = (y.testBit m && decide (m ≠ j)) := by
  obtain ⟨q, r, hr, rfl⟩ : ∃ q r, r < 2 ^ j ∧ y = 2 ^ j * q + r := ⟨y / 2 ^ j, y % 2 ^ j, Nat.mod_lt _ (Nat.two_pow_pos j), (Nat.div_add_mod y (2 ^ j)).symm⟩
  rw [Nat.testBit_two_pow_mul_add _ hr, if_neg (by omega), Nat.sub_self] at h
  have hq : q % 2 = 1 := by simpa using h
  obtain ⟨p, rfl⟩ : ∃ p, q = 2 * p + 1 := ⟨q / 2, by omega⟩
  have e : 2 ^ j * (2 * p + 1) + r - 2 ^ j = 2 ^ j * (2 * p) + r := by
    rw [Nat.mul_add, Nat.mul_one]; omega
  rw [e, Nat.testBit_two_pow_mul_add _ hr, Nat.testBit_two_pow_mul_add _ hr]
  by_cases hm : m < j
  · rw [if_pos hm, if_pos hm, show decide (m ≠ j) = true by simp; omega, Bool.and_true]
  · rw [if_neg hm, if_neg hm]
    by_cases e2 : m = j
    · subst e2; simp
    · obtain ⟨k, hk⟩ : ∃ k, m - j = k + 1 := ⟨m - j - 1, by omega⟩
      rw [hk, Nat.testBit_succ, Nat.testBit_succ, show 2 * p / 2 = p by omega, show (2 * p + 1) / 2 = p by omega, show decide (m ≠ j) = true by simp [e2], Bool.and_true]
/-- is something above itself, among the first k? -/
def loopTo (L : List Int) (k : Nat) : Bool := (List.range k).any (fun i => hasB (nth L i) (i : Int))
theorem loopTo_succ (L : List Int) (k : Nat) : loopTo L (k+1) = (loopTo L k || hasB (nth L k) (k : Int)) := by
  simp [loopTo, List.range_succ]
theorem clo_loopTo {n : Int} {xs : List Int} (h : relB n xs = true) : ordB n (clo xs) = !loopTo (clo xs) xs.length := by
  rw [Bool.eq_iff_iff, clo_loop h]
  simp [loopTo]
/-- what is above an element is above it in the closed relation -/
theorem clo_sub {n : Int} {xs : List Int} (h : relB n xs = true) {k : Nat} (hk : k < xs.length) : (bits .andNot .i64 (nth xs k) (nth (clo xs) k) != 0) = false := by
  have hp := relB_p h
  have hq := relB_p (clo_rel h)
  have hk2 : k < (clo xs).length := by rw [clo_len]; exact hk
  have s1 := hp.small k hk
  have s2 := hq.small k hk2
  rw [sub_i (hp.pos k hk) (by omega) (hq.pos k hk2) (by omega), sub_zero.2 (fun i hi => ?_)]
  · rfl
  · have := clo_of h (j := i) hk (by simpa [hasB] using hi)
    simpa [hasB] using this
/-- the covers without one pair -/
def covW (xs : List Int) (i j : Nat) : List Int := (covs xs xs.length).set i (nth (covs xs xs.length) i - 2 ^ j)
theorem covW_len (xs : List Int) (i j : Nat) : (covW xs i j).length = xs.length := by simp [covW, covs_len]
theorem covW_bit {n : Int} {xs : List Int} (h : ordB n xs = true) {i j : Nat} (hi : i < xs.length) (hb : hasB (nth (covs xs xs.length) i) (j : Int) = true) {a m : Nat} : 0 ≤ nth (covW xs i j) a ∧ hasB (nth (covW xs i j) a) (m : Int) = (hasB (nth (covs xs xs.length) a) (m : Int) && !(decide (a = i) && decide (m = j))) := by
  have hq := relB_p (cov_rel h)
  rw [covW, nth_set (by rw [covs_len]; exact hi)]
  by_cases e : i = a
  · subst e
    rw [if_pos rfl]
    have h0 := hq.pos i (by rw [covs_len]; exact hi)
    obtain ⟨y, hy⟩ := Int.eq_ofNat_of_zero_le h0
    rw [hy] at hb ⊢
    have hy2 : y.testBit j = true := by simpa [hasB] using hb
    have hle : 2 ^ j ≤ y := Nat.ge_two_pow_of_testBit hy2
    have e2 : ((y : Int) - 2 ^ j) = ((y - 2 ^ j : Nat) : Int) := by
      have : ((2 ^ j : Nat) : Int) = (2 : Int) ^ j := by simp
      omega
    rw [e2]
    refine ⟨by omega, ?_⟩
    simp only [hasB, Int.toNat_natCast]
    rw [bit_less hy2]
    simp
  · rw [if_neg e]
    by_cases ha : a < xs.length
    · refine ⟨hq.pos a (by rw [covs_len]; exact ha), ?_⟩
      rw [show decide (a = i) = false by simp; omega]; simp
    · have : nth (covs xs xs.length) a = 0 := by simp [nth, List.getD_eq_getElem?_getD, List.getElem?_eq_none (show (covs xs xs.length).length ≤ a by rw [covs_len]; omega)]
      rw [this]; refine ⟨by omega, ?_⟩; simp [hasB]
theorem covW_rel {n : Int} {xs : List Int} (h : ordB n xs = true) {i j : Nat} (hi : i < xs.length) (hb : hasB (nth (covs xs xs.length) i) (j : Int) = true) : relB n (covW xs i j) = true := by
  have hr := (ordB_iff.1 h).1
  refine rel_bits hr (covW_len xs i j) (fun k hk => (covW_bit h hi hb (a := k) (m := 0)).1) (fun k hk m hm => ?_)
  rw [(covW_bit h hi hb).2, Bool.and_eq_true] at hm
  exact has_lt (relB_p hr) hk ((cov_bit hk).1 hm.1).1
/-- without one of its covers it is not closed to the order -/
theorem covW_not {n : Int} {xs : List Int} (h : ordB n xs = true) {i j : Nat} (hi : i < xs.length) (hj : j < xs.length) (hb : hasB (nth (covs xs xs.length) i) (j : Int) = true) : hasB (nth (clo (covW xs i j)) i) (j : Int) = false := by
  have hr := (ordB_iff.1 h).1
  have hl := covW_len xs i j
  rw [← Bool.not_eq_true]
  intro h3
  have := clo_min (covW_rel h hi hb) (R := fun a b => hasB (nth xs a) (b : Int) = true ∧ ¬ (a = i ∧ b = j)) (fun a b ha hb2 h4 => ?_) (fun a m b ha hm hb2 h4 h5 => ?_) (by omega) (by omega) h3
  · exact this.2 ⟨rfl, rfl⟩
  · rw [(covW_bit h hi hb).2, Bool.and_eq_true] at h4
    refine ⟨((cov_bit (by omega)).1 h4.1).1, fun e => ?_⟩
    obtain ⟨rfl, rfl⟩ := e
    simp at h4
  · refine ⟨((ord_iff hr).1 h).2 a m b (by omega) (by omega) (by omega) h4.1 h5.1, fun e => ?_⟩
    obtain ⟨rfl, rfl⟩ := e
    have := ((cov_bit hi).1 hb).2 m (by omega) h4.1
    rw [h5.1] at this; cases this

theorem sN_perm {F G : Nat → Nat} {n : Nat} (hF : ∀ p, p < n → F p < n) (hG : ∀ q, q < n → G q < n) (h1 : ∀ p, p < n → G (F p) = p) (h2 : ∀ q, q < n → F (G q) = q) (g : Nat → Nat) : sN (fun p => g (F p)) n = sN g n := by
  have e1 : sN (fun p => g (F p)) n = sN (fun p => sN (fun q => if F p = q then g q else 0) n) n := sN_cong (fun p hp => by
    rw [sN_one (j := F p) (hF p hp) (fun i _ hi => if_neg (fun e => hi e.symm)), if_pos rfl])
  have e2 : sN (fun q => sN (fun p => if F p = q then g q else 0) n) n = sN g n := sN_cong (fun q hq => by
    rw [sN_one (j := G q) (hG q hq) (fun i hi hne => if_neg (fun e => hne (by rw [← e, h1 i hi]))), if_pos (h2 q hq)])
  rw [e1, sN_swap (fun p q => if F p = q then g q else 0), e2]
theorem cntE_sN (xs : List Int) (a b : Nat) : ∀ m, cntE xs m a b = (sN (fun k => if lv xs k = (a : Int) ∧ rtE xs k = (b : Int) then 1 else 0) m : Nat)
  | 0 => rfl
  | m+1 => by
    rw [cntE, cntE_sN xs a b m, sN]
    by_cases c : lv xs m = (a : Int) ∧ rtE xs m = (b : Int)
    · rw [if_pos c, if_pos c]; omega
    · rw [if_neg c, if_neg c]; omega
theorem cntP_sN (cs : List Int) (a b : Nat) : ∀ m, cntP cs m a b = (sN (fun k => if lft cs k = (a : Int) ∧ rgt cs k = (b : Int) then 1 else 0) m : Nat)
  | 0 => rfl
  | m+1 => by
    rw [cntP, cntP_sN cs a b m, sN]
    by_cases c : lft cs m = (a : Int) ∧ rgt cs m = (b : Int)
    · rw [if_pos c, if_pos c]; omega
    · rw [if_neg c, if_neg c]; omega
/-- the ends of an interval order, renamed -/
def rnV (xs es : List Int) : List Int := fmap (fun k => if k % 2 = 0 then lv xs (pl es (k/2)) else rtE xs (pl es (k/2))) (xs.length * 2)
theorem rnV_at {xs es : List Int} {k : Nat} (hk : k < xs.length) : lft (rnV xs es) k = lv xs (pl es k) ∧ rgt (rnV xs es) k = rtE xs (pl es k) := by
  constructor
  · rw [lft, rnV, fmap_nth _ (by omega), if_pos (by omega), show k * 2 / 2 = k by omega]
  · rw [rgt, rnV, fmap_nth _ (by omega), if_neg (by omega), show (k * 2 + 1) / 2 = k by omega]
/-- renaming keeps an interval order's matrix -/
theorem ren_mo {n : Int} {xs es : List Int} (h : isIv n xs = true) (he : permB n es = true) : isIv n (rens xs es) = true ∧ moL n (rens xs es) = moL n xs := by
  have ho : ordB n xs = true := by
    have := h
    simp only [isIv, Bool.and_eq_true] at this
    exact this.1
  have hr := (ordB_iff.1 ho).1
  have hp := relB_p hr
  have hl := hp.len
  have hn10 := (relB_iff.1 hr).1
  have hel := (permB_iff.1 he).1
  have hN : es.length = xs.length := by omega
  have hpl : ∀ k, k < xs.length → pl es k < xs.length := fun k hk => by have := (pl_spec he (x := k) (by omega)).1; omega
  have hm := mo_good h
  have hml : (moL n xs).length = (sets xs).length := by rw [moL, if_pos h, sqM_len]
  have hms := mxB_small hm
  have hg : goodV (rnV xs es) xs.length = true := by
    rw [goodV_iff]
    refine ⟨by omega, fun k hk => ?_⟩
    have e := ends_in h (hpl k hk)
    have e2 := ends_le h (hpl k hk)
    rw [wrongB_no, (rnV_at hk).1, (rnV_at hk).2]
    omega
  have hiv := ivo_is hg
  rw [hl] at hiv
  have hrp := ren_pt hr he
  have hrl : (rens xs es).length = xs.length := by rw [rens, fmap_len, hN]
  have hE : rens xs es = ivo (rnV xs es) xs.length xs.length := by
    have hr2 : relB n (ivo (rnV xs es) xs.length xs.length) = true := by
      have := hiv
      simp only [isIv, Bool.and_eq_true] at this
      exact (ordB_iff.1 this.1).1
    refine rel_ext (ren_rel hr he) hr2 (fun i j hi hj => ?_)
    rw [hrl] at hi hj
    have h1 := hrp.rel i j (by rw [olds_len]; omega) (by rw [olds_len]; omega)
    rw [olds_nth es (by omega), olds_nth es (by omega), Int.toNat_natCast] at h1
    rw [← h1, ivo_has hi, decide_eq_true hj, Bool.true_and, Bool.eq_iff_iff, has_ends h (hpl i hi) (hpl j hj), decide_eq_true_eq, (rnV_at hi).2, (rnV_at hj).1]
  rw [hE]
  refine ⟨hiv, ?_⟩
  have hc := canon_mx (cs := rnV xs es) (n := xs.length) hm hg (fmap_len _ _) (fun j hj => by
    have e := ends_in h (hpl j hj)
    rw [(rnV_at hj).1, (rnV_at hj).2, hml]; omega) (fun a b ha hb => by
    rw [hml] at ha hb
    have hs := sN_perm (F := pl es) (G := fun k => (nth es k).toNat) (n := xs.length) hpl (fun q hq => by
        have := okN_elem ((permB_iff.1 he).2 q (by omega))
        omega) (fun p hp => by
        have := (pl_spec he (x := p) (by omega)).2
        simp only [this, Int.toNat_natCast]) (fun q hq => by
        have := okN_elem ((permB_iff.1 he).2 q (by omega))
        exact pl_nth he (by omega) (by omega)) (fun k => if lv xs k = (a : Int) ∧ rtE xs k = (b : Int) then 1 else 0)
    rw [cntP_sN, moL, if_pos h, sqM_at ha hb, cntE_sN, ← hs]
    congr 1
    exact sN_cong (fun k hk => by rw [(rnV_at hk).1, (rnV_at hk).2]))
  rw [hl] at hc
  exact hc.2.2.2

theorem sN_ins {f : Nat → Nat} {x c : Nat} : ∀ {n : Nat}, x ≤ n → sN (fun j => if j < x then f j else if j = x then c else f (j-1)) (n+1) = sN f n + c := by
  intro n
  induction n with
  | zero =>
    intro h
    obtain rfl : x = 0 := by omega
    simp [sN]
  | succ n ih =>
    intro h
    by_cases e : x = n + 1
    · subst e
      rw [sN, sN_cong (g := f) (fun i hi => by rw [if_pos hi])]
      rw [if_neg (by omega), if_pos rfl]
    · rw [sN, ih (by omega), if_neg (by omega), if_neg (by omega), sN]
      simp only [Nat.add_sub_cancel]; omega
/-- one more in the last column, and a new row and a new column -/
def grA (e : Nat → Nat → Nat) (d x i j : Nat) : Nat := e i j + if i = x ∧ j = d - 1 then 1 else 0
def grB (e : Nat → Nat → Nat) (d x i j : Nat) : Nat :=
  if i < x then (if j < x then e i j else if j = x then (if x < d then e i (d-1) else 0) else if j = d then 0 else e i (j-1))
  else if i = x then (if j = d then 1 else 0)
  else (if j < x then e (i-1) j else if j = x then 0 else e (i-1) (j-1))
theorem grB_row {e : Nat → Nat → Nat} {d x i : Nat} (hx : x ≤ d) : sN (grB e d x i) (d+1) = if i < x then sN (e i) d else if i = x then 1 else sN (e (i-1)) d := by
  by_cases h1 : i < x
  · rw [if_pos h1]
    by_cases h2 : x < d
    · obtain ⟨m, rfl⟩ : ∃ m, d = m + 1 := ⟨d - 1, by omega⟩
      rw [sN]
      have e1 : grB e (m+1) x i (m+1) = 0 := by unfold grB; rw [if_pos h1, if_neg (by omega), if_neg (by omega), if_pos rfl]
      have e2 := sN_ins (f := e i) (x := x) (c := e i m) (n := m) (by omega)
      rw [e1, sN_cong (g := fun j => if j < x then e i j else if j = x then e i m else e i (j-1)) (fun j hj => by
        unfold grB
        rw [if_pos h1]
        by_cases g1 : j < x
        · rw [if_pos g1, if_pos g1]
        · rw [if_neg g1, if_neg g1]
          by_cases g2 : j = x
          · rw [if_pos g2, if_pos g2, if_pos h2]; rfl
          · rw [if_neg g2, if_neg g2, if_neg (by omega)]), e2, sN]
      rfl
    · obtain rfl : x = d := by omega
      rw [sN]
      have e1 : grB e x x i x = 0 := by unfold grB; rw [if_pos h1, if_neg (by omega), if_pos rfl, if_neg (by omega)]
      rw [e1, sN_cong (g := e i) (fun j hj => by unfold grB; rw [if_pos h1, if_pos hj])]; rfl
  · rw [if_neg h1]
    by_cases h2 : i = x
    · rw [if_pos h2, sN]
      have e1 : grB e d x i d = 1 := by unfold grB; rw [if_neg h1, if_pos h2, if_pos rfl]
      rw [e1, sN_zero (fun j hj => by unfold grB; rw [if_neg h1, if_pos h2, if_neg (by omega)])]
    · rw [if_neg h2, sN_cong (g := fun j => if j < x then e (i-1) j else if j = x then 0 else e (i-1) (j-1)) (fun j hj => by unfold grB; rw [if_neg h1, if_neg h2]), sN_ins hx]
      rfl
theorem grB_sum {e : Nat → Nat → Nat} {d x : Nat} (hx : x ≤ d) : sN (fun i => sN (grB e d x i) (d+1)) (d+1) = sN (fun i => sN (e i) d) d + 1 := by
  rw [sN_cong (g := fun i => if i < x then sN (e i) d else if i = x then 1 else (fun i => sN (e i) d) (i-1)) (fun i _ => grB_row hx)]
  exact sN_ins (f := fun i => sN (e i) d) hx
theorem grA_sum {e : Nat → Nat → Nat} {d x : Nat} (hx : x < d) : sN (fun i => sN (grA e d x i) d) d = sN (fun i => sN (e i) d) d + 1 := by
  have h1 : ∀ i, sN (grA e d x i) d = sN (e i) d + if i = x then 1 else 0 := by
    intro i
    have : sN (grA e d x i) d = sN (fun j => e i j + if i = x ∧ j = d - 1 then 1 else 0) d := rfl
    rw [this, sN_add]
    congr 1
    rw [sN_one (j := d - 1) (by omega) (fun j hj hne => if_neg (fun h => hne h.2))]
    by_cases h : i = x
    · rw [if_pos ⟨h, rfl⟩, if_pos h]
    · rw [if_neg (fun hh => h hh.1), if_neg h]
  rw [sN_cong (g := fun i => sN (e i) d + if i = x then 1 else 0) (fun i _ => h1 i), sN_add, sN_one (j := x) hx (fun i hi hne => if_neg hne), if_pos rfl]
theorem sN_ex {f : Nat → Nat} : ∀ {n : Nat}, 0 < sN f n → ∃ j, j < n ∧ 0 < f j
  | 0, h => by simp [sN] at h
  | n+1, h => by
    by_cases e : 0 < f n
    · exact ⟨n, by omega, e⟩
    · rw [sN] at h
      obtain ⟨j, hj, h2⟩ := sN_ex (f := f) (n := n) (by omega)
      exact ⟨j, by omega, h2⟩
/-- naturals in d rows and columns that make a matrix -/
structure GoodN (e : Nat → Nat → Nat) (d : Nat) : Prop where
  up : ∀ i, i < d → ∀ j, j < i → e i j = 0
  row : ∀ i, i < d → ∃ j, j < d ∧ 0 < e i j
  col : ∀ j, j < d → ∃ i, i < d ∧ 0 < e i j
theorem good_of {xss : List (List Int)} (h : mxB xss = true) : GoodN (enN xss) xss.length := by
  refine ⟨fun i _ j hj => en_up xss i j hj, fun i hi => ?_, fun j hj => ?_⟩
  · have h1 := (adB_row (mxB_iff.1 h).1 hi).1
    rw [en_totR h hi] at h1
    exact sN_ex (by unfold rS at h1; omega)
  · have h1 := (adB_row (mxB_iff.1 h).2.2 (k := j) (by rw [colsL_len]; exact hj)).1
    rw [colsL_row hj, en_totC h hj] at h1
    exact sN_ex (f := fun i => enN xss i j) (by unfold cS at h1; omega)
theorem mxN_of {e : Nat → Nat → Nat} {d : Nat} (h : GoodN e d) (hs : sN (fun i => sN (e i) d) d ≤ 12) : mxB (sqM (fun i j => (e i j : Int)) d d) = true := by
  rw [mxB_iff]
  refine ⟨ad_sq (fun i hi => ?_) hs, ?_, ?_⟩
  · obtain ⟨j, hj, hp⟩ := h.row i hi
    exact sN_pos hj hp
  · rw [upB_iff]
    intro i hi
    rw [sqM_len] at hi ⊢
    exact ⟨sqM_rlen hi, fun j hj => by rw [sqM_at hi (by omega), h.up i hi j hj]; rfl⟩
  · rw [cols_sq]
    refine ad_sq (e := fun i j => e j i) (fun i hi => ?_) ?_
    · obtain ⟨j, hj, hp⟩ := h.col i hi
      exact sN_pos (f := fun j => e j i) hj hp
    · have := sN_swap (fun i j => e i j) d d
      rw [← this]
      exact hs
theorem grA_good {e : Nat → Nat → Nat} {d x : Nat} (h : GoodN e d) (hx : x < d) : GoodN (grA e d x) d := by
  refine ⟨fun i hi j hj => ?_, fun i hi => ?_, fun j hj => ?_⟩
  · unfold grA
    rw [h.up i hi j hj, if_neg (fun hh => by omega)]
  · obtain ⟨j, hj, hp⟩ := h.row i hi
    exact ⟨j, hj, by unfold grA; omega⟩
  · obtain ⟨i, hi, hp⟩ := h.col j hj
    exact ⟨i, hi, by unfold grA; omega⟩
/-- the new row and column go in behind a row with a number in the last column -/
theorem grB_good {e : Nat → Nat → Nat} {d x : Nat} (h : GoodN e d) (hx : x ≤ d) (ht : x < d → ∃ i, i < x ∧ 0 < e i (d-1)) : GoodN (grB e d x) (d+1) := by
  refine ⟨fun i hi j hj => ?_, fun i hi => ?_, fun j hj => ?_⟩
  · unfold grB
    by_cases h1 : i < x
    · rw [if_pos h1, if_pos (by omega)]
      exact h.up i (by omega) j hj
    · rw [if_neg h1]
      by_cases h2 : i = x
      · rw [if_pos h2, if_neg (by omega)]
      · rw [if_neg h2]
        by_cases h3 : j < x
        · rw [if_pos h3]; exact h.up (i-1) (by omega) j (by omega)
        · rw [if_neg h3]
          by_cases h4 : j = x
          · rw [if_pos h4]
          · rw [if_neg h4]; exact h.up (i-1) (by omega) (j-1) (by omega)
  · have hr := grB_row (e := e) (d := d) (x := x) (i := i) hx
    refine sN_ex ?_
    rw [hr]
    split
    · obtain ⟨j, hj, hp⟩ := h.row i (by omega)
      exact sN_pos hj hp
    · split
      · omega
      · obtain ⟨j, hj, hp⟩ := h.row (i-1) (by omega)
        exact sN_pos hj hp
  · by_cases h1 : j < x
    · obtain ⟨i, hi, hp⟩ := h.col j (by omega)
      by_cases h2 : i < x
      · exact ⟨i, by omega, by unfold grB; rw [if_pos h2, if_pos h1]; exact hp⟩
      · exact ⟨i + 1, by omega, by unfold grB; rw [if_neg (by omega), if_neg (by omega), if_pos h1]; simpa using hp⟩
    · by_cases h2 : j = d
      · exact ⟨x, by omega, by unfold grB; rw [if_neg (by omega), if_pos rfl, if_pos h2]; omega⟩
      · have hxd : x < d := by omega
        by_cases h3 : j = x
        · obtain ⟨i, hi, hp⟩ := ht hxd
          exact ⟨i, by omega, by unfold grB; rw [if_pos hi, if_neg h1, if_pos h3, if_pos hxd]; exact hp⟩
        · obtain ⟨i, hi, hp⟩ := h.col (j-1) (by omega)
          by_cases h4 : i < x
          · exact ⟨i, by omega, by unfold grB; rw [if_pos h4, if_neg h1, if_neg h3, if_neg h2]; exact hp⟩
          · exact ⟨i + 1, by omega, by unfold grB; rw [if_neg (by omega), if_neg (by omega), if_neg h1, if_neg h3]; simpa using hp⟩

/-- the matrix grown by x -/
def grL (xss : List (List Int)) (x : Nat) : List (List Int) :=
  if (x : Int) ≤ topI xss then sqM (fun i j => (grA (enN xss) xss.length x i j : Int)) xss.length xss.length
  else sqM (fun i j => (grB (enN xss) xss.length x i j : Int)) (xss.length + 1) (xss.length + 1)
theorem firstNZ_hit {f : Nat → Int} : ∀ {n : Nat}, firstNZ f n < n → f (firstNZ f n) ≠ 0
  | 0, h => by simp [firstNZ] at h
  | n+1, h => by
    rw [firstNZ] at h ⊢
    by_cases e : firstNZ f n < n
    · rw [if_pos e]; exact firstNZ_hit e
    · rw [if_neg e] at h ⊢
      by_cases e2 : f n = 0
      · rw [if_pos e2] at h; omega
      · rw [if_neg e2]; exact e2
theorem en_eta {xss : List (List Int)} (h : mxB xss = true) : xss = sqM (fun i j => (enN xss i j : Int)) xss.length xss.length := by
  conv => lhs; rw [sq_eta (m := xss.length) (fun i hi => mxB_len h hi)]
  exact sqM_congr (fun i hi j hj => en_at h hi hj)
/-- a matrix in naturals: its numbers, its sum and its top -/
theorem en_sq {e : Nat → Nat → Nat} {d : Nat} (h : GoodN e d) {i j : Nat} (hi : i < d) (hj : j < d) : enN (sqM (fun i j => (e i j : Int)) d d) i j = e i j := by
  unfold enN
  by_cases hji : j < i
  · rw [if_pos hji, h.up i hi j hji]
  · rw [if_neg hji, sqM_at hi hj]; rfl
theorem top_sq {e : Nat → Nat → Nat} {d x : Nat} (hx : x < d) (h0 : ∀ i, i < x → e i (d-1) = 0) (h1 : 0 < e x (d-1)) : topI (sqM (fun i j => (e i j : Int)) d d) = (x : Int) := by
  have hl : (sqM (fun i j => (e i j : Int)) d d).length = d := sqM_len _ _ _
  have ht : topN (sqM (fun i j => (e i j : Int)) d d) = x := by
    unfold topN
    rw [hl]
    refine firstNZ_at (fun i hi => ?_) ?_ hx
    · show atM (sqM (fun i j => (e i j : Int)) d d) i (d-1) = 0
      rw [sqM_at (by omega) (by omega), h0 i hi]; rfl
    · show atM (sqM (fun i j => (e i j : Int)) d d) x (d-1) ≠ 0
      rw [sqM_at hx (by omega)]; omega
  rw [topI, hl, if_neg (by omega), ht]
theorem gr_mx {xss : List (List Int)} (hm : mxB xss = true) {x : Nat} (hx : x ≤ xss.length) (hs : matS xss xss.length < 12) :
    mxB (grL xss x) = true ∧ matS (grL xss x) (grL xss x).length = matS xss xss.length + 1 ∧ topI (grL xss x) = (x : Int) := by
  have hg := good_of hm
  have hsum := en_sum hm xss.length (Nat.le_refl _)
  have hss : sN (fun t => rS (enN xss) t xss.length) xss.length = sN (fun i => sN (enN xss i) xss.length) xss.length := rfl
  rw [hss] at hsum
  have hmat : ∀ (e : Nat → Nat → Nat) (d : Nat), matS (sqM (fun i j => (e i j : Int)) d d) (sqM (fun i j => (e i j : Int)) d d).length = (sN (fun i => sN (e i) d) d : Int) := fun e d => by
    rw [sqM_len]; exact matS_sqN d (Nat.le_refl _)
  unfold grL
  by_cases ht : (x : Int) ≤ topI xss
  · rw [if_pos ht]
    have hd : 0 < xss.length := by
      apply Classical.byContradiction
      intro hn
      rw [topI, if_pos (by omega)] at ht
      omega
    have htl := topN_lt hm hd
    rw [topI, if_neg (by omega)] at ht
    have hxd : x < xss.length := by omega
    have h1 := grA_sum (e := enN xss) hxd
    refine ⟨mxN_of (grA_good hg hxd) (by omega), by rw [hmat]; omega, top_sq hxd (fun i hi => ?_) ?_⟩
    · have hz : atM xss i (xss.length - 1) = 0 := firstNZ_zero (f := fun i => atM xss i (xss.length - 1)) (n := xss.length) (j := i) (by show i < topN xss; omega)
      rw [en_at hm (by omega) (by omega)] at hz
      unfold grA
      rw [if_neg (by omega)]; omega
    · unfold grA
      rw [if_pos ⟨rfl, rfl⟩]; omega
  · rw [if_neg ht]
    have h1 := grB_sum (e := enN xss) hx
    have htt : x < xss.length → ∃ i, i < x ∧ 0 < enN xss i (xss.length - 1) := by
      intro hxd
      have htl := topN_lt hm (by omega)
      rw [topI, if_neg (by omega)] at ht
      refine ⟨topN xss, by omega, ?_⟩
      have hz : atM xss (topN xss) (xss.length - 1) ≠ 0 := firstNZ_hit (f := fun i => atM xss i (xss.length - 1)) htl
      rw [en_at hm htl (by omega)] at hz
      omega
    refine ⟨mxN_of (grB_good hg hx htt) (by omega), by rw [hmat]; omega, top_sq (by omega) (fun i hi => ?_) ?_⟩
    · show grB (enN xss) xss.length x i xss.length = 0
      unfold grB
      rw [if_pos hi, if_neg (by omega)]
      by_cases e1 : xss.length = x
      · rw [if_pos e1, if_neg (by omega)]
      · rw [if_neg e1, if_pos rfl]
    · show 0 < grB (enN xss) xss.length x x xss.length
      unfold grB
      rw [if_neg (by omega), if_pos rfl, if_pos rfl]; omega

end Go.Proofs.YtiodfmiielnngaaGreat.top
