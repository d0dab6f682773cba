/- PROVED: the law FnExactDualMatrix returns true for every input, and each of its arguments reads afterwards as before. No conditions. -/
import Derived.Test.YtcklfnpgnbhklaaRows
import Derived.WalkKit
import Derived.WalkSpells
import Derived.WalkLawsBesides
import Derived.Deep.QuietTactic
import Derived.BigQuiet
import Derived.ProofKit
import Derived.OpenShut
import Derived.ShutString
import Derived.ChangeOld
import Derived.Below
import Derived.Lib.SmallJoins
import Derived.Lib.Hide
import Derived.Deep.RegionHeld3
import Derived.Maps.AppendAt
import Derived.Deep.AppendLies
import Derived.Shelf.Slices.Reverse
import Derived.Shelf.Slices.Delete
import Derived.Shelf.Slices.Cells
import Derived.Sort.OwnSortedInts
import Derived.Deep.RegionLaw
import Derived.Deep.Matrix
import Derived.Test.YtcklfnpgnbhklaaDualMatrixP1
namespace Go.Proofs.Ytcklfnpgnbhklaa.dualMatrix
open Go Go.RowKit
set_option linter.unusedVariables false
set_option linter.unusedSimpArgs false
set_option maxHeartbeats 400000
open Go.Shelf
/-- the rows that have been made in the other order -/
theorem RowsP.rev {w w' : World} {B g n c : Nat} {vl : List Value} {xss : List (List Int)} (h : RowsP w B (.slice (some ⟨g, 0, none⟩) n c) vl xss) (hn : n = xss.length) (ho : w'.ownsRow B 33 1 (.slice (some ⟨g, 0, none⟩) n c) n vl.reverse) (hg : w.grownBy w' (some g)) : RowsP w' B (.slice (some ⟨g, 0, none⟩) n c) vl.reverse xss.reverse := by
  have hl := h.o.vlen
  have hv : ∀ k, k < xss.length → valAt vl.reverse k = valAt vl (xss.length - 1 - k) := fun k hk => by
    simp [valAt, List.getD_eq_getElem?_getD, List.getElem?_reverse (show k < vl.length by omega), hl]
  have hr : ∀ k, k < xss.length → rowL xss.reverse k = rowL xss (xss.length - 1 - k) := fun k hk => by
    simp [rowL, List.getD_eq_getElem?_getD, List.getElem?_reverse hk]
  refine ⟨⟨by rw [List.length_reverse, ← hn]; exact ho, fun k hk => ?_, fun k hk c hc => ?_⟩, fun j k hjk hk c hc => ?_⟩
  · rw [List.length_reverse] at hk
    rw [hv k hk, hr k hk]
    refine (h.o.row _ (by omega)).kept hg (own_nb (fun c h1 h2 => ?_))
    exact h.o.apart _ (by omega) c h1 (by rw [h2]; rfl)
  · rw [List.length_reverse] at hk
    rw [hv k hk] at hc
    exact h.o.apart _ (by omega) c hc
  · rw [List.length_reverse] at hk
    rw [hv j (by omega)] at hc
    rw [hv k hk]
    intro h2
    exact h.pair (xss.length - 1 - k) (xss.length - 1 - j) (by omega) (by omega) c h2 hc
/-- a row of the rows has been written -/
theorem RowsP.setRow {w w' : World} {B : Nat} {v : Value} {vl : List Value} {xss : List (List Int)} (h : RowsP w B v vl xss) {k : Nat} (hk : k < xss.length) {r : List Int} (hr : OwnI w' B (valAt vl k) r) (hg : w.grownBy w' (valAt vl k).ownBlock) : RowsP w' B v vl (xss.set k r) := by
  have hrow : ∀ j, j < xss.length → rowL (xss.set k r) j = if j = k then r else rowL xss j := by
    intro j hj
    simp only [rowL, List.getD_eq_getElem?_getD, List.getElem?_set]
    by_cases e : k = j
    · subst e; simp [hk]
    · simp [e, Ne.symm e]
  refine ⟨⟨?_, fun j hj => ?_, fun j hj => ?_⟩, fun i j hij hj => ?_⟩
  · rw [List.length_set]
    exact World.ownsRow.kept h.o.own hg (own_ne (fun c h1 h2 => h.o.apart k hk c h2 h1))
  · rw [List.length_set] at hj
    rw [hrow j hj]
    split
    · rename_i e; rw [e]; exact hr
    · rename_i e
      refine (h.o.row j hj).kept hg (own_ne (fun c h1 h2 => ?_))
      rcases Nat.lt_or_gt_of_ne e with h3 | h3
      · exact h.pair j k h3 hk c h1 h2
      · exact h.pair k j h3 hj c h2 h1
  · rw [List.length_set] at hj
    exact h.o.apart j hj
  · rw [List.length_set] at hj
    exact h.pair i j hij hj
def duT (f : Nat → Nat → Int) (n k : Nat) (a b : Nat) : Int := if a < k then f a (n - 1 - b) else f a b
theorem duT_zero {f : Nat → Nat → Int} {n : Nat} : sqM f n n = sqM (duT f n 0) n n := sqM_congr (fun a ha b hb => by rw [duT, if_neg (by omega)])
theorem duT_end {f : Nat → Nat → Int} {n : Nat} : sqM (duT f n n) n n = sqM (fun a b => f a (n - 1 - b)) n n := sqM_congr (fun a ha b hb => by rw [duT, if_pos ha])
theorem fmap_rev {f : Nat → Int} {n : Nat} : (fmap f n).reverse = fmap (fun b => f (n - 1 - b)) n := by
  apply List.ext_getElem?
  intro i
  by_cases hi : i < n
  · rw [List.getElem?_reverse (by rw [fmap_len]; exact hi), fmap_len]
    simp [fmap, hi, show n - 1 - i < n by omega]
  · rw [List.getElem?_eq_none (by rw [List.length_reverse, fmap_len]; omega), List.getElem?_eq_none (by rw [fmap_len]; omega)]
theorem duT_step {f : Nat → Nat → Int} {n k : Nat} (hk : k < n) : (sqM (duT f n k) n n).set k (rowL (sqM (duT f n k) n n) k).reverse = sqM (duT f n (k+1)) n n := by
  refine rows_ext (by simp [sqM]) (fun i hi => ?_)
  rw [List.length_set, sqM_len] at hi
  have : ∀ r, rowL ((sqM (duT f n k) n n).set k r) i = if i = k then r else rowL (sqM (duT f n k) n n) i := by
    intro r
    simp only [rowL, List.getD_eq_getElem?_getD, List.getElem?_set]
    by_cases e : k = i
    · subst e; simp [sqM_len, hk]
    · simp [e, Ne.symm e]
  rw [this, sqM_row hk, sqM_row hi, sqM_row hi]
  split
  · rename_i e
    subst e
    rw [fmap_rev]
    exact fmap_ext (fun b hb => by rw [duT, duT, if_neg (by omega), if_pos (by omega)])
  · exact fmap_ext (fun b hb => by
      rw [duT, duT]
      by_cases h : i < k
      · rw [if_pos h, if_pos (by omega)]
      · rw [if_neg h, if_neg (by omega)])
theorem sqM_rev {f : Nat → Nat → Int} {n m : Nat} : (sqM f n m).reverse = sqM (fun a b => f (n - 1 - a) b) n m := by
  refine rows_ext (by simp [sqM]) (fun i hi => ?_)
  rw [List.length_reverse, sqM_len] at hi
  rw [sqM_row hi]
  have : rowL (sqM f n m).reverse i = rowL (sqM f n m) (n - 1 - i) := by
    simp [rowL, List.getD_eq_getElem?_getD, List.getElem?_reverse (show i < (sqM f n m).length by rw [sqM_len]; exact hi), sqM_len]
  rw [this, sqM_row (by omega)]
set_option maxRecDepth 100000 in
set_option maxHeartbeats 1000000 in
theorem iDual_any (a : Option Addr) (xss : List (List Int)) (cap : Nat) (w : World) (hx : RdC w a xss) (hs : xss.length + totS xss xss.length ≤ 1048576) :
    Calls Try.prog 28 #[.agg #[.slice a xss.length cap]] w fun e w' => ∃ a0 c0 vl, e = .returned (.tuple #[.agg #[.slice a0 (duL xss).length c0], .bool (mxB xss)]) ∧ RowsP w' w.heap.size (.slice a0 (duL xss).length c0) vl (duL xss) ∧ Below w.heap.size w w' := by
  have hlen := hx.rd.len
  have hV := Var1.new (w.alloc (.cells #[.slice a xss.length cap] 27)) (.slice none 0 0) 27
  have hb0 : Below w.heap.size w ((w.alloc (.cells #[.slice a xss.length cap] 27)).alloc (.cells #[.slice none 0 0] 27)) := (by repeat (first | exact Below.refl _ _ | assumption | refine Below.alloc ?_ (by first | exact Nat.le_refl _ | (simp only [World.size_alloc, World.size_setCell, World.size_drew]; omega) | omega) _ | refine Below.setCell ?_ (by first | exact Nat.le_refl _ | (simp only [World.size_alloc, World.size_setCell, World.size_drew]; omega) | omega) _ | refine Below.drew ?_))
  rw [World.size_alloc] at hV
  have HCL := Lib.hid (fun W (h : RdC W a xss) => iIsMatrix_any a xss cap W h hs)
  cases hm : mxB xss
  · have HM := Lib.hid hm
    have H1 : Hid (duL xss = []) := by simp [Hid, duL, hm]
    clear hm
    go_enter Try.func28, Try.ntmps28
    go_wp2_with fail
    refine (HCL.out _ (hx.below hb0)).mono ?_
    rintro e w1 ⟨rfl, hb⟩
    rw [HM.out]
    have b1 : Below w.heap.size w w1 := hb0.trans (hb.mono (by simp; omega))
    have hV1 := hV.below hb
    have ⟨⟨zV, cV⟩, fV⟩ := hV1
    clear hb hV
    go_wp2_with fail
    have hV2 := hV1.set (.slice none 0 0)
    have b2 := b1.setCell (p := ⟨w.heap.size + 1, 0, none⟩) (by simp) (.slice none 0 0)
    refine bodyPost_ret (v := .tuple #[.agg #[.slice none 0 0], .bool false]) (by have ⟨⟨_, q1⟩, _⟩ := hV2; simp [results, Try.results28, go_sem, q1]) rfl ?_
    exact ⟨none, 0, [], by rw [H1.out]; rfl, by rw [H1.out]; exact RowsP.nil _ _, b2⟩
  · have HM := Lib.hid hm
    have h12 := mxB_small hm
    obtain ⟨F, hF⟩ : ∃ F : Nat → Nat → Int, F = fun a b => atM xss b (xss.length - 1 - a) := ⟨_, rfl⟩
    have H1 : Hid (duL xss = sqM (fun a b => F a (xss.length - 1 - b)) xss.length xss.length) := by rw [Hid, duL, if_pos hm, hF]
    have HC : Hid ((colsL xss).reverse = sqM F xss.length xss.length) := by rw [Hid, colsL_sq, sqM_rev, hF]
    have HX := Lib.hid hx
    have HCO := Lib.hid (fun W hb => columnsOf_any a xss cap W (hx.rd.below hb) h12 (fun k hk => mxB_len hm hk))
    clear hm hF hx
    go_enter Try.func28, Try.ntmps28
    go_wp2_with fail
    refine (HCL.out _ (HX.out.below hb0)).mono ?_
    rintro e w1 ⟨rfl, hb⟩
    rw [HM.out]
    have b1 : Below w.heap.size w w1 := hb0.trans (hb.mono (by simp; omega))
    have hV1 := hV.below hb
    have hc1 := (hb.cell (p := ⟨w.heap.size, 0, none⟩) (by simp; omega)).trans (show _ = some (Value.slice a xss.length cap) by simp)
    have hz1 : w.heap.size + 2 ≤ w1.heap.size := by have := hb.size; simp at this; omega
    clear hb hV hb0 HCL
    go_wp2_with fail
    refine (HCO.out _ b1).mono ?_
    rintro e w2 ⟨g, vl, rfl, hro, hb2⟩
    have hV2 := hV1.below hb2
    have b2 := b1.trans (hb2.mono b1.size)
    have hz2 : w.heap.size + 2 ≤ w2.heap.size := by have := hb2.size; omega
    have hro2 := hro.mono (B' := w.heap.size + 2) hz1
    have hsl : ∀ i, i < xss.length → ∃ a m c, valAt vl i = .slice a m c := fun i hi => by
      obtain ⟨a9, c9, e9⟩ := (hro2.o.row i (by rw [colsL_len]; exact hi)).form
      exact ⟨a9, _, c9, e9⟩
    have hgl := hro2.o.lt g rfl
    have hown := hro2.o.own
    rw [colsL_len] at hown
    have HREV := Lib.hid (revRows_any g xss.length xss.length _ vl w2 hown hsl (by omega))
    have HRO := Lib.hid hro2
    have HV2 := Lib.hid hV2
    obtain ⟨N, hN⟩ : ∃ N, N = xss.length := ⟨_, rfl⟩
    have HN := Lib.hid hN
    rw [← hN] at HREV H1 HC hlen h12 HRO ⊢
    clear hro hro2 hV2 hV1 hb2 hsl hown HCO hc1 hs hN
    go_wp2_with fail
    refine HREV.out.mono ?_
    rintro e w3 ⟨rfl, ho3, hg3⟩
    have hro3 := HRO.out.rev (by rw [colsL_len]; exact HN.out) ho3 hg3
    rw [HC.out, duT_zero] at hro3
    have b3 := b2.trans (grown_below hg3 w.heap.size (by omega) (by omega))
    have hV3 := HV2.out.kept hg3 (by simp; omega)
    have HRO3 := Lib.hid hro3
    have HV3 := Lib.hid hV3
    obtain ⟨ul, hul⟩ : ∃ ul, ul = vl.reverse := ⟨_, rfl⟩
    rw [← hul] at HRO3
    clear hro3 ho3 hg3 hV3 b1 b2 HREV hul
    go_wp2_with fail
    go_loopw [17] (fun i wr => ∃ k : Nat, k ≤ N ∧ i = .int .i64 k ∧ RowsP wr (w.heap.size + 2) (.slice (some ⟨g, 0, none⟩) N N) ul (sqM (duT F N k) N N) ∧ Var1 wr (w.heap.size + 1) (.slice none 0 0) ∧ Below w.heap.size w wr) (fun i _ => N - (intOf i).toNat)
    case atStart => exact ⟨0, Nat.zero_le _, rfl, HRO3.out, HV3.out, b3⟩
    case round =>
      clear b3
      obtain ⟨k, hk, rfl, hro, hV, hb⟩ := hrel
      have hbs := hb.size
      by_cases hlt : k < N
      · have k1 : (k : Int) < (N : Int) := by omega
        obtain ⟨g4, e4, hg4, hg5, hc4, hf4⟩ := hro.outer (k := k) (by rw [sqM_len]; exact hlt)
        simp only [Option.some.injEq, Addr.mk.injEq, and_true] at e4
        subst e4
        have hrow := hro.o.row k (by rw [sqM_len]; exact hlt)
        obtain ⟨ar, cr, er⟩ := hrow.form
        have hst : Hid (∀ (w9 : World), OwnI w9 (w.heap.size + 2) (valAt ul k) (rowL (sqM (duT F N k) N N) k).reverse → wr.grownBy w9 (valAt ul k).ownBlock → RowsP w9 (w.heap.size + 2) (.slice (some ⟨g, 0, none⟩) N N) ul (sqM (duT F N (k+1)) N N)) := fun w9 h1 h2 => by
          have h := hro.setRow (k := k) (by rw [sqM_len]; exact hlt) h1 h2
          rw [duT_step hlt] at h
          exact h
        have HRL : Hid ((rowL (sqM (duT F N k) N N) k).length = N) := sqM_rlen hlt
        rw [er] at hc4 hrow hst
        have HRV := Lib.hid (revOwn ar cr (rowL (sqM (duT F N k) N N) k) (w.heap.size + 2) wr hrow)
        have hul := hrow.lt
        have HV1 := Lib.hid hV
        obtain ⟨R, hR⟩ : ∃ R, R = rowL (sqM (duT F N k) N N) k := ⟨_, rfl⟩
        rw [← hR] at hc4 HRV hst HRL
        rw [← hR] at hul
        clear hro hV hrow er hR
        go_wp2_with fail
        refine HRV.out.mono ?_
        rintro e w9 ⟨rfl, ho9, hg9⟩
        have hro9 := hst.out w9 ho9 hg9
        have hV9 := HV1.out.kept hg9 (ne_own (fun c e => by have := (hul c e).1; omega))
        have b9 := hb.trans (below_of_grown hg9 (fun c e => by have := (hul c e).1; omega) hbs)
        clear ho9 hg9
        go_wp2_with fail
        go_roundw
        case rel => exact ⟨k + 1, by omega, by go_num, hro9, hV9, b9⟩
        case measure => simp [intOf]; omega
      · obtain rfl : k = N := by omega
        rw [duT_end] at hro
        have ⟨⟨zV, cV⟩, fV⟩ := hV
        have HV1 := Lib.hid hV
        have HRO1 := Lib.hid hro
        clear hro hV
        go_wp2_with fail
        have hV2 := HV1.out.set (.slice (some ⟨g, 0, none⟩) k k)
        have b2 := hb.setCell (p := ⟨w.heap.size + 1, 0, none⟩) (by simp) (.slice (some ⟨g, 0, none⟩) k k)
        refine bodyPost_ret (v := .tuple #[.agg #[.slice (some ⟨g, 0, none⟩) k k], .bool true]) (by have ⟨⟨_, q1⟩, _⟩ := hV2; simp [results, Try.results28, go_sem, q1]) rfl ?_
        exact ⟨_, k, ul, by rw [H1.out, sqM_len], by rw [H1.out, sqM_len]; exact (HRO1.out.setBelow (show w.heap.size + 1 < w.heap.size + 2 by omega) _).mono (by omega), b2⟩

theorem markIntS_any (a : Option Addr) (xs : List Int) (cap : Nat) (k : Int) (B : Nat) (w : World) (h0 : 0 ≤ k) (h1 : k ≤ 1099511627776) (hn : xs.length ≤ 1048576) (ho : OwnI w B (.slice a xs.length cap) xs) :
    Calls Try.prog 25 #[.slice a xs.length cap, .int .i64 k] w fun e w' => e = .returned (.int .i64 (k + xs.length)) ∧ OwnI w' B (.slice a xs.length cap) (marks k xs.length) ∧ w.grownBy w' (Value.slice a xs.length cap).ownBlock := by
  go_enter Try.func25, Try.ntmps25
  go_wp2_with fail
  go_loopw [1, 5] (fun k' i wr => ∃ j : Nat, j ≤ xs.length ∧ i = .int .i64 j ∧ k' = .int .i64 (k + j) ∧ wr.ownsRow B 3 1 (.slice a xs.length cap) xs.length ((marks k j ++ xs.drop j).map (Value.int .i64)) ∧ w.grownBy wr (Value.slice a xs.length cap).ownBlock) (fun _ i _ => xs.length - (intOf i).toNat)
  case atStart => exact ⟨0, Nat.zero_le _, rfl, by simp, by (have e : marks k 0 ++ xs.drop 0 = xs := by simp [marks]); rw [e]; exact ho, World.grownBy.refl _ _⟩
  case round =>
    obtain ⟨j, hj, rfl, rfl, hown, hg⟩ := hrel
    by_cases hlt : j < xs.length
    · obtain ⟨g, rfl⟩ : ∃ g, a = some ⟨g, 0, none⟩ := by
        rcases hown.2 with ⟨e, h⟩ | ⟨g, c, cur, e, _⟩
        · omega
        · simp only [Value.slice.injEq] at e
          exact ⟨g, e.1⟩
      have hst := World.ownsRow.stored hown j (.int .i64 (k + j))
      rw [mark_step k xs j hlt] at hst
      have hcc := World.ownsRow.cellAt hown j (by omega)
      have hfr := World.ownsRow.frozenAt hown j
      have hcc' : ∃ u, wr.cell? ⟨g, j, none⟩ = some u := by
        rw [hcc]
        exact ⟨_, List.getElem?_eq_getElem (by simp [marks_len]; omega)⟩
      obtain ⟨u, hu⟩ := hcc'
      have Hst := Lib.hid hst
      have Hg := Lib.hid (grown_trans hg hst.2)
      clear hst hcc hown hg
      go_wp2
      go_roundw
      case rel => exact ⟨j + 1, by omega, by go_num, by go_num, Hst.out.1, Hg.out⟩
      case measure => simp [intOf]; omega
    · obtain rfl : j = xs.length := by omega
      go_wp2
      go_ret
      refine ⟨rfl, ?_, hg⟩
      have e : marks k xs.length ++ xs.drop xs.length = marks k xs.length := by simp
      rw [e] at hown
      show World.ownsRow _ _ _ _ _ _ _
      rw [marks_len]
      exact hown

theorem markIntSS_any (g : Nat) (vl : List Value) (xss : List (List Int)) (cap : Nat) (k : Int) (B lo hi : Nat) (w : World) (h0 : 0 ≤ k) (h1 : k ≤ 1048576) (hn : xss.length + totS xss xss.length ≤ 1048576) (ho : OwnS w B g vl xss) (hc : ∀ i, i < xss.length → ∀ c, (valAt vl i).ownBlock = some c → lo ≤ c ∧ c < hi) :
    Calls Try.prog 51 #[.slice (some ⟨g, 0, none⟩) xss.length cap, .int .i64 k] w fun e w' => e = .returned (.int .i64 (k + ((totS xss xss.length : Nat) : Int))) ∧ TouchS lo hi w w' := by
  have hmax := ho.max
  have HC := Lib.hid hc
  have HAP := Lib.hid ho.apart
  clear hc
  go_enter Try.func51, Try.ntmps51
  go_wp2_with fail
  go_loopw [1, 5] (fun k' i wr => ∃ j : Nat, j ≤ xss.length ∧ i = .int .i64 j ∧ k' = .int .i64 (k + ((totS xss j : Nat) : Int)) ∧ TouchS lo hi w wr ∧ g < wr.heap.size ∧ (∀ i, j ≤ i → i < xss.length → wr.cell? ⟨g, i, none⟩ = some (valAt vl i) ∧ OwnI wr (g + 1) (valAt vl i) (rowL xss i))) (fun _ i _ => xss.length - (intOf i).toNat)
  case atStart => exact ⟨0, Nat.zero_le _, rfl, by simp [totS], TouchS.refl _ _ _, ho.hi, fun i _ hi => ⟨ho.cell i hi, ho.row i hi⟩⟩
  case round =>
    obtain ⟨j, hj, rfl, rfl, ht, hg, hall⟩ := hrel
    have HA := Lib.hid hall
    clear hall
    by_cases hlt : j < xss.length
    · have ⟨hcj, hoj⟩ := HA.out j (Nat.le_refl _) hlt
      have hrt := row_tot (xss := xss) hlt
      have hmn := totS_mono (xss := xss) (j := j) (k := xss.length) (by omega)
      have HN : Hid (totS xss (j+1) = totS xss j + (rowL xss j).length) := rfl
      have k1 : (j : Int) < (xss.length : Int) := by omega
      have hcb := HC.out j hlt
      have HCB := Lib.hid hcb
      have HNX := Lib.hid (fun i (h : j < i) (h2 : i < xss.length) => HAP.out j i h h2)
      obtain ⟨vj, hvj⟩ : ∃ vj, vj = valAt vl j := ⟨_, rfl⟩
      rw [← hvj] at hcj hoj HCB HNX
      clear hvj hcb
      obtain ⟨aj, capj, rfl⟩ := hoj.form
      have hro : (rowL xss j).length ≤ 1048576 := by omega
      go_wp2_with fail
      refine (markIntS_any _ _ _ _ _ _ (by omega) (by omega) hro hoj).mono ?_
      rintro e w2 ⟨rfl, ho2, hg2⟩
      go_wp2_with fail
      go_roundw
      case rel =>
        refine ⟨j + 1, by omega, by go_num, val_int (by rw [HN.out]; omega), ht.step hg2 HCB.out, Nat.lt_of_lt_of_le hg hg2.size, fun i h2 h3 => ?_⟩
        have ⟨hci, hoi⟩ := HA.out i (by omega) h3
        refine ⟨hg2.cell hci (ne_own (fun c e => by have := hoj.lt c e; show c ≠ g; omega)), hoi.kept hg2 (own_ne (fun c e e2 => by have := HNX.out i (by omega) h3 c c e2 e; omega))⟩
      case measure => simp [intOf]; omega
    · obtain rfl : j = xss.length := by omega
      go_wp2_with fail
      go_ret
      exact ⟨rfl, ht⟩

/-- the marking of an argument: rows that were converted -/
theorem markMx_arg (g : Nat) (vl : List Value) (xss : List (List Int)) (cap : Nat) (k : Int) (B lo hi : Nat) (w : World) (h0 : 0 ≤ k) (h1 : k ≤ 1048576) (hn : xss.length + totS xss xss.length ≤ 1048576) (ho : OwnS w B g vl xss) (hc : ∀ i, i < xss.length → ∀ c, (valAt vl i).ownBlock = some c → lo ≤ c ∧ c < hi) :
    Calls Try.prog 24 #[.agg #[.slice (some ⟨g, 0, none⟩) xss.length cap], .int .i64 k] w fun e w' => e = .returned (.int .i64 (k + ((totS xss xss.length : Nat) : Int))) ∧ TouchS lo hi w w' := by
  have hmax := ho.max
  have ha : Below w.heap.size w (w.alloc (.cells #[.slice (some ⟨g, 0, none⟩) xss.length cap] 27)) := (by repeat (first | exact Below.refl _ _ | assumption | refine Below.alloc ?_ (by first | exact Nat.le_refl _ | (simp only [World.size_alloc, World.size_setCell, World.size_drew]; omega) | omega) _ | refine Below.setCell ?_ (by first | exact Nat.le_refl _ | (simp only [World.size_alloc, World.size_setCell, World.size_drew]; omega) | omega) _ | refine Below.drew ?_))
  have HA := Lib.hid ha
  have HCL := Lib.hid (markIntSS_any g vl xss cap k B lo hi _ h0 h1 hn (ho.below ha (Nat.le_refl _)) hc)
  clear hc ha ho
  go_enter Try.func24, Try.ntmps24
  go_wp2_with fail
  refine HCL.out.mono ?_
  rintro e w1 ⟨rfl, ht⟩
  have ht2 := TouchS.of_below (B := 0) HA.out ht
  clear ht
  go_wp2_with fail
  go_ret
  exact ⟨rfl, ht2⟩

set_option maxRecDepth 100000 in
/-- the marking of a result: only its rows are written -/
theorem markST_any (a : Option Addr) (n cap : Nat) (vl : List Value) (xss : List (List Int)) (k : Int) (B lo hi : Nat) (w : World) (hnl : n = xss.length) (h0 : 0 ≤ k) (h1 : k ≤ 1048576) (hn : xss.length + totS xss xss.length ≤ 1048576) (ho : RowsP w B (.slice a n cap) vl xss) (hc : ∀ i, i < xss.length → ∀ c, (valAt vl i).ownBlock = some c → lo ≤ c ∧ c < hi) :
    Calls Try.prog 51 #[.slice a n cap, .int .i64 k] w fun e w' => e = .returned (.int .i64 (k + ((totS xss xss.length : Nat) : Int))) ∧ RowsP w' B (.slice a n cap) vl (mkS xss k) ∧ TouchS lo hi w w' := by
  subst hnl
  have HO := Lib.hid ho
  have HC := Lib.hid hc
  have hmax : xss.length ≤ 1048576 := by omega
  go_enter Try.func51, Try.ntmps51
  clear ho hc
  go_wp2_with fail
  go_loopw [1, 5] (fun k' i wr => ∃ j : Nat, j ≤ xss.length ∧ i = .int .i64 j ∧ k' = .int .i64 (k + ((totS xss j : Nat) : Int)) ∧ TouchS lo hi w wr ∧ wr.ownsRow B 33 1 (.slice a xss.length cap) xss.length vl ∧ Hid (∀ i, i < xss.length → OwnI wr B (valAt vl i) (if i < j then rowL (mkS xss k) i else rowL xss i))) (fun _ i _ => xss.length - (intOf i).toNat)
  case atStart => exact ⟨0, Nat.zero_le _, rfl, by simp [totS], TouchS.refl _ _ _, HO.out.o.own, fun i hi => by rw [if_neg (by omega)]; exact HO.out.o.row i hi⟩
  case round =>
    obtain ⟨j, hj, rfl, rfl, hb, hown, HA⟩ := hrel
    by_cases hlt : j < xss.length
    · have hoj := HA.out j hlt
      rw [if_neg (by omega)] at hoj
      have hrt := row_tot (xss := xss) hlt
      have hmn := totS_mono (xss := xss) (j := j) (k := xss.length) (by omega)
      have HN : Hid (totS xss (j+1) = totS xss j + (rowL xss j).length) := rfl
      have k1 : (j : Int) < (xss.length : Int) := by omega
      have hvl := HO.out.o.vlen
      have hcj : ∃ g, a = some ⟨g, 0, none⟩ ∧ wr.cell? ⟨g, j, none⟩ = some (valAt vl j) ∧ g < wr.heap.size := by
        rcases hown.2 with ⟨e, h00⟩ | ⟨g, cap', cur, e, hbg, hg, _⟩
        · omega
        · simp only [Value.slice.injEq] at e
          obtain ⟨rfl, _, rfl⟩ := e
          exact ⟨g, rfl, by rw [World.ownsRow.cellAt hown j (by omega), valAt_get (by omega)], (Array.getElem?_eq_some_iff.1 hg).1⟩
      obtain ⟨g, rfl, hc, hgl⟩ := hcj
      have HAP := Lib.hid (HO.out.o.apart j hlt)
      have HCJ := Lib.hid (HC.out j hlt)
      have HPR := Lib.hid (fun i (hi : i < xss.length) (hne : i ≠ j) c (hc : (valAt vl j).ownBlock = some c) (hc2 : (valAt vl i).ownBlock = some c) => show False from by
        rcases Nat.lt_or_gt_of_ne hne with h | h
        · exact HO.out.pair i j h hlt c hc2 hc
        · exact HO.out.pair j i h hi c hc hc2)
      obtain ⟨vj, hvj⟩ : ∃ vj, vj = valAt vl j := ⟨_, rfl⟩
      have HVJ := Lib.hid hvj
      rw [← hvj] at hc hoj HAP HPR HCJ
      clear hvj hvl
      obtain ⟨aj, capj, rfl⟩ := hoj.form
      have hro : (rowL xss j).length ≤ 1048576 := by omega
      go_wp2_with fail
      refine (markIntS_any _ _ _ _ _ _ (by omega) (by omega) hro hoj).mono ?_
      rintro e w2 ⟨rfl, ho2, hg2⟩
      have b2 := hb.step hg2 HCJ.out
      have own2 : w2.ownsRow B 33 1 (.slice (some ⟨g, 0, none⟩) xss.length cap) xss.length vl := World.ownsRow.kept hown hg2 (own_ne (fun c e e2 => HAP.out c e2 e))
      have HA2 : Hid (∀ i, i < xss.length → OwnI w2 B (valAt vl i) (if i < j + 1 then rowL (mkS xss k) i else rowL xss i)) := by
        intro i hi
        by_cases e : i = j
        · subst e
          rw [if_pos (by omega), mkS_row hi, ← HVJ.out]
          exact ho2
        · have h3 := HA.out i hi
          have h4 : OwnI w2 B (valAt vl i) (if i < j then rowL (mkS xss k) i else rowL xss i) := h3.kept hg2 (own_ne (fun c e1 e2 => HPR.out i hi e c e2 e1))
          by_cases e5 : i < j
          · rw [if_pos e5] at h4
            rw [if_pos (by omega)]; exact h4
          · rw [if_neg e5] at h4
            rw [if_neg (by omega)]; exact h4
      clear ho2 hg2 hown
      go_wp2_with fail
      go_roundw
      case rel => exact ⟨j + 1, by omega, by go_num, val_int (by rw [HN.out]; omega), b2, own2, HA2⟩
      case measure => simp [intOf]; omega
    · obtain rfl : j = xss.length := by omega
      go_wp2_with fail
      go_ret
      refine ⟨rfl, ⟨⟨by rw [mkS_len]; exact hown, fun i hi => ?_, fun i hi => ?_⟩, fun i j h1 h2 => ?_⟩, hb⟩
      · rw [mkS_len] at hi
        have := HA.out i hi
        rw [if_pos hi] at this; exact this
      · rw [mkS_len] at hi
        exact HO.out.o.apart i hi
      · rw [mkS_len] at h2
        exact HO.out.pair i j h1 h2
theorem markMx_res (a : Option Addr) (cap : Nat) (vl : List Value) (xss : List (List Int)) (k : Int) (B lo hi : Nat) (w : World) (h0 : 0 ≤ k) (h1 : k ≤ 1048576) (hn : xss.length + totS xss xss.length ≤ 1048576) (ho : RowsP w B (.slice a xss.length cap) vl xss) (hc : ∀ i, i < xss.length → ∀ c, (valAt vl i).ownBlock = some c → lo ≤ c ∧ c < hi) :
    Calls Try.prog 24 #[.agg #[.slice a xss.length cap], .int .i64 k] w fun e w' => e = .returned (.int .i64 (k + ((totS xss xss.length : Nat) : Int))) ∧ RowsP w' B (.slice a xss.length cap) vl (mkS xss k) ∧ TouchS lo hi w w' := by
  have hmax : xss.length ≤ 1048576 := by omega
  have ha : Below w.heap.size w (w.alloc (.cells #[.slice a xss.length cap] 27)) := (by repeat (first | exact Below.refl _ _ | assumption | refine Below.alloc ?_ (by first | exact Nat.le_refl _ | (simp only [World.size_alloc, World.size_setCell, World.size_drew]; omega) | omega) _ | refine Below.setCell ?_ (by first | exact Nat.le_refl _ | (simp only [World.size_alloc, World.size_setCell, World.size_drew]; omega) | omega) _ | refine Below.drew ?_))
  have HA := Lib.hid ha
  have HCL := Lib.hid (markST_any a xss.length cap vl xss k B lo hi _ rfl h0 h1 hn (ho.below ha (Nat.le_refl _)) hc)
  clear hc ha ho
  go_enter Try.func24, Try.ntmps24
  go_wp2_with fail
  refine HCL.out.mono ?_
  rintro e w1 ⟨rfl, ho1, ht⟩
  have ht2 := TouchS.of_below (B := 0) HA.out ht
  clear ht
  go_wp2_with fail
  go_ret
  exact ⟨rfl, ho1, ht2⟩

theorem heldIntS_any (a : Option Addr) (n cap : Nat) (k : Int) (w : World) (h0 : 0 ≤ k) (h1 : k ≤ 1099511627776) (hn : n ≤ 1048576) (hx : Rd w a (marks k n)) :
    Calls Try.prog 26 #[.slice a n cap, .int .i64 k] w fun e w' => e = .returned (.int .i64 (k + n)) ∧ Below w.heap.size w w' := by
  go_enter Try.func26, Try.ntmps26
  go_wp2_with fail
  go_loop [1, 5] (fun k' i => ∃ j : Nat, j ≤ n ∧ i = .int .i64 j ∧ k' = .int .i64 (k + j)) (fun _ i => n - (intOf i).toNat)
  case atStart => exact ⟨0, Nat.zero_le _, rfl, by simp⟩
  case round =>
    obtain ⟨j, hj, rfl, rfl⟩ := hrel
    by_cases hlt : j < n
    · obtain ⟨b, off, rfl, hbl, hc⟩ := hx.cell j (by rw [marks_len]; exact hlt)
      rw [marks_nth hlt] at hc
      go_wp2_with fail
      go_round
      case rel => exact ⟨j + 1, by omega, by go_num, by go_num⟩
      case measure => simp [intOf]; omega
    · obtain rfl : j = n := by omega
      go_wp2_with fail
      go_ret
      exact ⟨rfl, (by repeat (first | exact Below.refl _ _ | assumption | refine Below.alloc ?_ (by first | exact Nat.le_refl _ | (simp only [World.size_alloc, World.size_setCell, World.size_drew]; omega) | omega) _ | refine Below.setCell ?_ (by first | exact Nat.le_refl _ | (simp only [World.size_alloc, World.size_setCell, World.size_drew]; omega) | omega) _ | refine Below.drew ?_))⟩

set_option maxRecDepth 100000 in
theorem heldSS_any (a : Option Addr) (n cap : Nat) (xss : List (List Int)) (k : Int) (w : World) (hnl : n = xss.length) (h0 : 0 ≤ k) (h1 : k ≤ 1048576) (hn : xss.length + totS xss xss.length ≤ 1048576) (hx : RdS w a (mkS xss k)) :
    Calls Try.prog 54 #[.slice a n cap, .int .i64 k] w fun e w' => e = .returned (.int .i64 (k + ((totS xss xss.length : Nat) : Int))) ∧ Below w.heap.size w w' := by
  subst hnl
  have hmax : xss.length ≤ 1048576 := by omega
  go_enter Try.func54, Try.ntmps54
  go_wp2_with fail
  go_loopw [1, 5] (fun k' i wr => ∃ j : Nat, j ≤ xss.length ∧ i = .int .i64 j ∧ k' = .int .i64 (k + ((totS xss j : Nat) : Int)) ∧ Below w.heap.size w wr) (fun _ i _ => xss.length - (intOf i).toNat)
  case atStart => exact ⟨0, Nat.zero_le _, rfl, by simp [totS], Below.refl _ _⟩
  case round =>
    obtain ⟨j, hj, rfl, rfl, hb⟩ := hrel
    by_cases hlt : j < xss.length
    · have hrt := row_tot (xss := xss) hlt
      have hmn := totS_mono (xss := xss) (j := j) (k := xss.length) (by omega)
      have HN : Hid (totS xss (j+1) = totS xss j + (rowL xss j).length) := rfl
      have k1 : (j : Int) < (xss.length : Int) := by omega
      obtain ⟨b1, off1, a1, cap1, rfl, hbl1, hc1, hr1⟩ := (hx.below hb).row j (by rw [mkS_len]; exact hlt)
      rw [mkS_row hlt] at hc1 hr1
      have hml : (marks (k + ((totS xss j : Nat) : Int)) (rowL xss j).length).length = (rowL xss j).length := by simp [marks]
      rw [hml] at hc1
      clear hml
      have hro : (rowL xss j).length ≤ 1048576 := by omega
      have hcall := heldIntS_any a1 (rowL xss j).length cap1 (k + ((totS xss j : Nat) : Int)) wr (by omega) (by omega) hro hr1
      have HCL := Lib.hid hcall
      have hge : ¬ (k + ((totS xss j : Nat) : Int) + (((rowL xss j).length : Nat) : Int) < 0) := by omega
      have hbs := hb.size
      clear hcall hr1
      go_wp2_with fail
      refine HCL.out.mono ?_
      rintro e w2 ⟨rfl, hb2⟩
      go_wp2_with fail
      go_roundw
      case rel => exact ⟨j + 1, by omega, by go_num, val_int (by rw [HN.out]; omega), hb.trans (hb2.mono hbs)⟩
      case measure => simp [intOf]; omega
    · obtain rfl : j = xss.length := by omega
      go_wp2_with fail
      go_ret
      exact ⟨rfl, hb⟩

theorem heldMx_any (a : Option Addr) (cap : Nat) (xss : List (List Int)) (k : Int) (w : World) (h0 : 0 ≤ k) (h1 : k ≤ 1048576) (hn : xss.length + totS xss xss.length ≤ 1048576) (hx : RdS w a (mkS xss k)) :
    Calls Try.prog 29 #[.agg #[.slice a xss.length cap], .int .i64 k] w fun e w' => e = .returned (.int .i64 (k + ((totS xss xss.length : Nat) : Int))) ∧ Below w.heap.size w w' := by
  have hmax : xss.length ≤ 1048576 := by omega
  have ha : Below w.heap.size w (w.alloc (.cells #[.slice a xss.length cap] 27)) := (by repeat (first | exact Below.refl _ _ | assumption | refine Below.alloc ?_ (by first | exact Nat.le_refl _ | (simp only [World.size_alloc, World.size_setCell, World.size_drew]; omega) | omega) _ | refine Below.setCell ?_ (by first | exact Nat.le_refl _ | (simp only [World.size_alloc, World.size_setCell, World.size_drew]; omega) | omega) _ | refine Below.drew ?_))
  have HA := Lib.hid ha
  have HCL := Lib.hid (heldSS_any a xss.length cap xss k _ rfl h0 h1 hn (hx.below ha))
  clear ha hx
  go_enter Try.func29, Try.ntmps29
  go_wp2_with fail
  refine HCL.out.mono ?_
  rintro e w1 ⟨rfl, hb⟩
  have hge : ¬ (k + ((totS xss xss.length : Nat) : Int) < 0) := by omega
  have hb2 : Below w.heap.size w w1 := HA.out.trans (hb.mono HA.out.size)
  clear hb
  go_wp2_with fail
  go_ret
  exact ⟨rfl, hb2⟩

theorem walk (a0 : Option Addr) (xss0 : List (List Int)) (cap0 : Nat) (w : World) (hx0 : RdS w a0 xss0) :
    Calls Try.prog 7 #[.agg #[.slice a0 xss0.length cap0]] w fun e w' => e = .returned (.bool true) ∧ Below w.heap.size w w' := by
  have hR0 : (duL xss0).length + totS (duL xss0) (duL xss0).length ≤ 1048576 := duL_len xss0
  by_cases hs0 : 1048576 < ((xss0.length + totS xss0 xss0.length : Nat) : Int)
  · go_enter Try.func7, Try.ntmps7
    go_wp2_with fail
    refine (szMx_no (by omega) (hx0.below ((Below.refl _ _).alloc (by first | exact Nat.le_refl _ | simp) _))).mono ?_
    rintro e w1 ⟨rfl, hb1⟩
    have bw1 : Below w.heap.size w w1 := Below.trans (by repeat (first | exact Below.refl _ _ | assumption | refine Below.alloc ?_ (by first | exact Nat.le_refl _ | (simp only [World.size_alloc, World.size_setCell, World.size_drew]; omega) | omega) _ | refine Below.setCell ?_ (by first | exact Nat.le_refl _ | (simp only [World.size_alloc, World.size_setCell, World.size_drew]; omega) | omega) _ | refine Below.drew ?_)) (hb1.mono (by first | (simp only [World.size_alloc, World.size_setCell, World.size_drew]; omega) | omega))
    have A0_1 : Box1 w1 w.heap.size (.slice a0 xss0.length cap0) := ⟨by have := hb1.size; simp at this; omega, (hb1.cell (p := ⟨w.heap.size, 0, none⟩) (by simp <;> omega)).trans (by simp)⟩
    have ⟨zA0_1, cA0_1⟩ := A0_1
    go_wp2_with fail
    go_ret
    exact ⟨rfl, bw1⟩
  go_enter Try.func7, Try.ntmps7
  go_wp2_with fail
  refine (szMx_ok (by omega) (hx0.below ((Below.refl _ _).alloc (by first | exact Nat.le_refl _ | simp) _))).mono ?_
  rintro e w1 ⟨rfl, hb⟩
  have bw1 : Below w.heap.size w w1 := Below.trans (by repeat (first | exact Below.refl _ _ | assumption | refine Below.alloc ?_ (by first | exact Nat.le_refl _ | (simp only [World.size_alloc, World.size_setCell, World.size_drew]; omega) | omega) _ | refine Below.setCell ?_ (by first | exact Nat.le_refl _ | (simp only [World.size_alloc, World.size_setCell, World.size_drew]; omega) | omega) _ | refine Below.drew ?_)) (hb.mono (by first | (simp only [World.size_alloc, World.size_setCell, World.size_drew]; omega) | omega))
  have z1 : w.heap.size ≤ w1.heap.size := bw1.size
  have A0_1 : Box1 w1 w.heap.size (.slice a0 xss0.length cap0) := ⟨by have := hb.size; simp at this; omega, (hb.cell (p := ⟨w.heap.size, 0, none⟩) (by simp <;> omega)).trans (by simp)⟩
  have ⟨zA0_1, cA0_1⟩ := A0_1
  clear hb
  go_wp2_with fail
  refine (toMx_any _ _ _ _ (hx0.below bw1) (by omega)).mono ?_
  rintro e w2 ⟨pT0, qT0, lT0, rfl, ho, hb⟩
  have ht : Below w1.heap.size w1 w2 := hb
  have z2 : w1.heap.size ≤ w2.heap.size := ht.size
  have bw2 : Below w.heap.size w w2 := bw1.trans (ht.mono bw1.size)
  have A0_2 := A0_1.below ht
  have ⟨zA0_2, cA0_2⟩ := A0_2
  clear A0_1 cA0_1
  have T0_2 := ho
  have UT0 := T0_2.cut (Nat.le_refl _)
  clear ho
  clear ht hb
  go_wp2_with fail
  refine (sDual_any _ _ _ _ (T0_2.rdC) (by omega)).mono ?_
  rintro e w3 ⟨pR0, qR0, lR0, rfl, ho0, hb⟩
  have ht : Below w2.heap.size w2 w3 := hb
  have z3 : w2.heap.size ≤ w3.heap.size := ht.size
  have bw3 : Below w.heap.size w w3 := bw2.trans (ht.mono bw2.size)
  have A0_3 := A0_2.below ht
  have ⟨zA0_3, cA0_3⟩ := A0_3
  have T0_3 := T0_2.below ht (Nat.le_refl _)
  clear A0_2 cA0_2 T0_2
  have R0_3 := ho0
  have UR0 := R0_3.cut (Nat.le_refl _)
  clear ho0
  clear ht hb
  go_wp2_with fail
  clear T0_3 UT0
  refine (toMx_any _ _ _ _ (hx0.below (bw3.alloc bw3.size _)) (by omega)).mono ?_
  rintro e w4 ⟨pX0, qX0, lX0, rfl, ho, hb⟩
  have ht : Below w3.heap.size w3 w4 := Below.trans (by repeat (first | exact Below.refl _ _ | assumption | refine Below.alloc ?_ (by first | exact Nat.le_refl _ | (simp only [World.size_alloc, World.size_setCell, World.size_drew]; omega) | omega) _ | refine Below.setCell ?_ (by first | exact Nat.le_refl _ | (simp only [World.size_alloc, World.size_setCell, World.size_drew]; omega) | omega) _ | refine Below.drew ?_)) (hb.mono (by first | (simp only [World.size_alloc, World.size_setCell, World.size_drew]; omega) | omega))
  have z4 : w3.heap.size ≤ w4.heap.size := ht.size
  have bw4 : Below w.heap.size w w4 := bw3.trans (ht.mono bw3.size)
  have A0_4 := A0_3.below ht
  have BR0_4 : Box1 w4 w3.heap.size (.slice pR0 (duL xss0).length qR0) := (Box1.new w3 _ 27).below hb
  have ⟨zA0_4, cA0_4⟩ := A0_4
  have ⟨zBR0_4, cBR0_4⟩ := BR0_4
  have R0_4 := R0_3.below ht (Nat.le_refl _)
  clear A0_3 cA0_3 R0_3
  have X0_4 := ho
  have UX0 := X0_4.cut (Nat.le_refl _); simp only [World.size_alloc] at UX0
  clear ho
  clear ht hb
  go_wp2_with fail
  refine (iDual_any _ _ _ _ (X0_4.rdC.below (by repeat (first | exact Below.refl _ _ | assumption | refine Below.alloc ?_ (by first | exact Nat.le_refl _ | (simp only [World.size_alloc, World.size_setCell, World.size_drew]; omega) | omega) _ | refine Below.setCell ?_ (by first | exact Nat.le_refl _ | (simp only [World.size_alloc, World.size_setCell, World.size_drew]; omega) | omega) _ | refine Below.drew ?_))) (by omega)).mono ?_
  rintro e w5 ⟨pG0, qG0, lG0, rfl, ho0, hb⟩
  have ht : Below w4.heap.size w4 w5 := Below.trans (by repeat (first | exact Below.refl _ _ | assumption | refine Below.alloc ?_ (by first | exact Nat.le_refl _ | (simp only [World.size_alloc, World.size_setCell, World.size_drew]; omega) | omega) _ | refine Below.setCell ?_ (by first | exact Nat.le_refl _ | (simp only [World.size_alloc, World.size_setCell, World.size_drew]; omega) | omega) _ | refine Below.drew ?_)) (hb.mono (by first | (simp only [World.size_alloc, World.size_setCell, World.size_drew]; omega) | omega))
  have z5 : w4.heap.size ≤ w5.heap.size := ht.size
  have bw5 : Below w.heap.size w w5 := bw4.trans (ht.mono bw4.size)
  have A0_5 := A0_4.below ht
  have BR0_5 := BR0_4.below ht
  have BX0_5 : Box1 w5 w4.heap.size (.slice (some ⟨pX0, 0, none⟩) xss0.length qX0) := (Box1.new w4 _ 27).below hb
  have ⟨zA0_5, cA0_5⟩ := A0_5
  have ⟨zBR0_5, cBR0_5⟩ := BR0_5
  have ⟨zBX0_5, cBX0_5⟩ := BX0_5
  have R0_5 := R0_4.below ht (Nat.le_refl _)
  have X0_5 := X0_4.below ht (Nat.le_refl _)
  clear A0_4 cA0_4 BR0_4 cBR0_4 R0_4 X0_4
  have G0_5 := ho0
  have UG0 := G0_5.cut (Nat.le_refl _); simp only [World.size_alloc] at UG0
  clear ho0
  clear ht hb
  go_wp2_with fail
  refine (eqMx_any _ _ (duL xss0) _ _ _ (G0_5.o.rd.below (by repeat (first | exact Below.refl _ _ | assumption | refine Below.alloc ?_ (by first | exact Nat.le_refl _ | (simp only [World.size_alloc, World.size_setCell, World.size_drew]; omega) | omega) _ | refine Below.setCell ?_ (by first | exact Nat.le_refl _ | (simp only [World.size_alloc, World.size_setCell, World.size_drew]; omega) | omega) _ | refine Below.drew ?_))) (R0_5.o.rd.below (by repeat (first | exact Below.refl _ _ | assumption | refine Below.alloc ?_ (by first | exact Nat.le_refl _ | (simp only [World.size_alloc, World.size_setCell, World.size_drew]; omega) | omega) _ | refine Below.setCell ?_ (by first | exact Nat.le_refl _ | (simp only [World.size_alloc, World.size_setCell, World.size_drew]; omega) | omega) _ | refine Below.drew ?_)))).mono ?_
  rintro e w6 ⟨rfl, hb⟩
  have ht : Below w5.heap.size w5 w6 := Below.trans (by repeat (first | exact Below.refl _ _ | assumption | refine Below.alloc ?_ (by first | exact Nat.le_refl _ | (simp only [World.size_alloc, World.size_setCell, World.size_drew]; omega) | omega) _ | refine Below.setCell ?_ (by first | exact Nat.le_refl _ | (simp only [World.size_alloc, World.size_setCell, World.size_drew]; omega) | omega) _ | refine Below.drew ?_)) (hb.mono (by first | (simp only [World.size_alloc, World.size_setCell, World.size_drew]; omega) | omega))
  have z6 : w5.heap.size ≤ w6.heap.size := ht.size
  have bw6 : Below w.heap.size w w6 := bw5.trans (ht.mono bw5.size)
  have A0_6 := A0_5.below ht
  have BR0_6 := BR0_5.below ht
  have BX0_6 := BX0_5.below ht
  have BG0_6 : Box1 w6 w5.heap.size (.slice pG0 (duL xss0).length qG0) := (Box1.new w5 _ 27).below hb
  have ⟨zA0_6, cA0_6⟩ := A0_6
  have ⟨zBR0_6, cBR0_6⟩ := BR0_6
  have ⟨zBX0_6, cBX0_6⟩ := BX0_6
  have ⟨zBG0_6, cBG0_6⟩ := BG0_6
  have R0_6 := R0_5.below ht (Nat.le_refl _)
  have X0_6 := X0_5.below ht (Nat.le_refl _)
  have G0_6 := G0_5.below ht (Nat.le_refl _)
  clear A0_5 cA0_5 BR0_5 cBR0_5 BX0_5 cBX0_5 R0_5 X0_5 G0_5
  clear ht hb
  go_wp2_with fail
  go_region_held3 (fun w' => w'.cell? ⟨w.heap.size, 0, none⟩ = some (.slice a0 xss0.length cap0) ∧ w'.cell? ⟨w4.heap.size, 0, none⟩ = some (.slice (some ⟨pX0, 0, none⟩) xss0.length qX0))
    (first | exact ⟨P8.2, Q8.2⟩ | exact ⟨P7.2, Q7.2⟩ | go_keep)
    (first | (go_at_call 14; refine (toMx_any _ _ _ _ (hx0.below (bw6.trans (Joins.below_draws _ _ _))) (by omega)).mono ?_; rintro e w7 ⟨a7', cap7', l7', rfl, ho7, hb7⟩; have ht7 : Below w6.heap.size w6 w7 := (Joins.below_draws _ _ _).trans hb7; have P7 := A0_6.below ht7; have Q7 := BX0_6.below ht7) | (go_at_call 16; refine (eqMx_any _ _ xss0 _ _ _ (X0_6.rd.below ht7) ho7.rd).mono ?_; rintro e w8 ⟨rfl, hb8⟩; have P8 := P7.below hb8; have Q8 := Q7.below hb8))
  have ht : Below w6.heap.size w6 w8 := ht7.trans (hb8.mono ht7.size)
  have z8 : w6.heap.size ≤ w8.heap.size := ht.size
  have bw8 : Below w.heap.size w w8 := bw6.trans (ht.mono bw6.size)
  clear P7 Q7 P8 Q8 ho7
  have A0_8 := A0_6.below ht
  have BR0_8 := BR0_6.below ht
  have BX0_8 := BX0_6.below ht
  have BG0_8 := BG0_6.below ht
  have ⟨zA0_8, cA0_8⟩ := A0_8
  have ⟨zBR0_8, cBR0_8⟩ := BR0_8
  have ⟨zBX0_8, cBX0_8⟩ := BX0_8
  have ⟨zBG0_8, cBG0_8⟩ := BG0_8
  have R0_8 := R0_6.below ht (Nat.le_refl _)
  have X0_8 := X0_6.below ht (Nat.le_refl _)
  have G0_8 := G0_6.below ht (Nat.le_refl _)
  clear A0_6 cA0_6 BR0_6 cBR0_6 BX0_6 cBX0_6 BG0_6 cBG0_6 R0_6 X0_6 G0_6
  clear ht hb8 ht7 hb7
  go_wp2_with fail
  refine (markMx_arg _ _ _ _ _ _ (w3.heap.size + 1) w4.heap.size _ (by omega) (by omega) (by omega) X0_8 (fun i hi c e => by have h1 := UX0.2 i hi c e; have h2 := UX0.1; omega)).mono ?_
  rintro e w9 ⟨rfl, hg⟩
  have z9 : w8.heap.size ≤ w9.heap.size := hg.size
  have bw9 : Below w.heap.size w w9 := bw8.trans (hg.below (by omega) (by omega))
  have A0_9 := A0_8.touch hg (by omega)
  have ⟨zA0_9, cA0_9⟩ := A0_9
  have BR0_9 := BR0_8.touch hg (by omega)
  have ⟨zBR0_9, cBR0_9⟩ := BR0_9
  have BX0_9 := BX0_8.touch hg (by omega)
  have ⟨zBX0_9, cBX0_9⟩ := BX0_9
  have BG0_9 := BG0_8.touch hg (by omega)
  have ⟨zBG0_9, cBG0_9⟩ := BG0_9
  have R0_9 := R0_8.touch hg (fun c e => by have := UR0.1 c e; omega) (fun k hk c e => by have := UR0.2 k hk c e; omega)
  have G0_9 := G0_8.touch hg (fun c e => by have := UG0.1 c e; omega) (fun k hk c e => by have := UG0.2 k hk c e; omega)
  clear A0_8 cA0_8 BR0_8 cBR0_8 BX0_8 cBX0_8 BG0_8 cBG0_8 R0_8 X0_8 G0_8 hg UX0
  go_wp2_with fail
  refine (eqMx_any _ _ (duL xss0) _ _ _ (G0_9.o.rd) (R0_9.o.rd)).mono ?_
  rintro e w10 ⟨rfl, hb⟩
  have ht : Below w9.heap.size w9 w10 := hb
  have z10 : w9.heap.size ≤ w10.heap.size := ht.size
  have bw10 : Below w.heap.size w w10 := bw9.trans (ht.mono bw9.size)
  have A0_10 := A0_9.below ht
  have BR0_10 := BR0_9.below ht
  have BX0_10 := BX0_9.below ht
  have BG0_10 := BG0_9.below ht
  have ⟨zA0_10, cA0_10⟩ := A0_10
  have ⟨zBR0_10, cBR0_10⟩ := BR0_10
  have ⟨zBX0_10, cBX0_10⟩ := BX0_10
  have ⟨zBG0_10, cBG0_10⟩ := BG0_10
  have R0_10 := R0_9.below ht (Nat.le_refl _)
  have G0_10 := G0_9.below ht (Nat.le_refl _)
  clear A0_9 cA0_9 BR0_9 cBR0_9 BX0_9 cBX0_9 BG0_9 cBG0_9 R0_9 G0_9
  clear ht hb
  go_wp2_with fail
  have hcm : ∀ i, i < (duL xss0).length → ∀ c, (valAt lG0 i).ownBlock = some c → (w4.heap.size + 1) ≤ c ∧ c < w5.heap.size := fun i hi c e => by have := UG0.2 i hi c e; omega
  refine (markMx_res _ _ _ (duL xss0) _ _ (w4.heap.size + 1) w5.heap.size _ (by omega) (by omega) hR0 G0_10 hcm).mono ?_
  rintro e w11 ⟨rfl, ho, hg⟩
  have z11 : w10.heap.size ≤ w11.heap.size := hg.size
  have bw11 : Below w.heap.size w w11 := bw10.trans (hg.below (by omega) (by omega))
  have A0_11 := A0_10.touch hg (by omega)
  have ⟨zA0_11, cA0_11⟩ := A0_11
  have BR0_11 := BR0_10.touch hg (by omega)
  have ⟨zBR0_11, cBR0_11⟩ := BR0_11
  have BX0_11 := BX0_10.touch hg (by omega)
  have ⟨zBX0_11, cBX0_11⟩ := BX0_11
  have BG0_11 := BG0_10.touch hg (by omega)
  have ⟨zBG0_11, cBG0_11⟩ := BG0_11
  have R0_11 := R0_10.touch hg (fun c e => by have := UR0.1 c e; omega) (fun k hk c e => by have := UR0.2 k hk c e; omega)
  clear A0_10 cA0_10 BR0_10 cBR0_10 BX0_10 cBX0_10 BG0_10 cBG0_10 R0_10 G0_10 hg hcm
  have G0_11 := ho
  clear ho
  go_wp2_with fail
  refine (heldMx_any _ _ (duL xss0) _ _ (by omega) (by omega) hR0 G0_11.o.rd).mono ?_
  rintro e w12 ⟨rfl, hb⟩
  have ht : Below w11.heap.size w11 w12 := hb
  have z12 : w11.heap.size ≤ w12.heap.size := ht.size
  have bw12 : Below w.heap.size w w12 := bw11.trans (ht.mono bw11.size)
  have A0_12 := A0_11.below ht
  have BR0_12 := BR0_11.below ht
  have BX0_12 := BX0_11.below ht
  have BG0_12 := BG0_11.below ht
  have ⟨zA0_12, cA0_12⟩ := A0_12
  have ⟨zBR0_12, cBR0_12⟩ := BR0_12
  have ⟨zBX0_12, cBX0_12⟩ := BX0_12
  have ⟨zBG0_12, cBG0_12⟩ := BG0_12
  have R0_12 := R0_11.below ht (Nat.le_refl _)
  have G0_12 := G0_11.below ht (Nat.le_refl _)
  clear A0_11 cA0_11 BR0_11 cBR0_11 BX0_11 cBX0_11 BG0_11 cBG0_11 R0_11 G0_11
  clear ht hb
  go_wp2_with fail
  refine (toMx_any _ _ _ _ (hx0.below bw12) (by omega)).mono ?_
  rintro e w13 ⟨pV0, qV0, lV0, rfl, ho, hb⟩
  have ht : Below w12.heap.size w12 w13 := hb
  have z13 : w12.heap.size ≤ w13.heap.size := ht.size
  have bw13 : Below w.heap.size w w13 := bw12.trans (ht.mono bw12.size)
  have A0_13 := A0_12.below ht
  have BR0_13 := BR0_12.below ht
  have BX0_13 := BX0_12.below ht
  have BG0_13 := BG0_12.below ht
  have ⟨zA0_13, cA0_13⟩ := A0_13
  have ⟨zBR0_13, cBR0_13⟩ := BR0_13
  have ⟨zBX0_13, cBX0_13⟩ := BX0_13
  have ⟨zBG0_13, cBG0_13⟩ := BG0_13
  have R0_13 := R0_12.below ht (Nat.le_refl _)
  have G0_13 := G0_12.below ht (Nat.le_refl _)
  clear A0_12 cA0_12 BR0_12 cBR0_12 BX0_12 cBX0_12 BG0_12 cBG0_12 R0_12 G0_12
  have V0_13 := ho
  have UV0 := V0_13.cut (Nat.le_refl _)
  clear ho
  clear ht hb
  go_wp2_with fail
  refine (iDual_any _ _ _ _ (V0_13.rdC) (by omega)).mono ?_
  rintro e w14 ⟨pH0, qH0, lH0, rfl, ho0, hb⟩
  have ht : Below w13.heap.size w13 w14 := hb
  have z14 : w13.heap.size ≤ w14.heap.size := ht.size
  have bw14 : Below w.heap.size w w14 := bw13.trans (ht.mono bw13.size)
  have A0_14 := A0_13.below ht
  have BR0_14 := BR0_13.below ht
  have BX0_14 := BX0_13.below ht
  have BG0_14 := BG0_13.below ht
  have ⟨zA0_14, cA0_14⟩ := A0_14
  have ⟨zBR0_14, cBR0_14⟩ := BR0_14
  have ⟨zBX0_14, cBX0_14⟩ := BX0_14
  have ⟨zBG0_14, cBG0_14⟩ := BG0_14
  have R0_14 := R0_13.below ht (Nat.le_refl _)
  have G0_14 := G0_13.below ht (Nat.le_refl _)
  have V0_14 := V0_13.below ht (Nat.le_refl _)
  clear A0_13 cA0_13 BR0_13 cBR0_13 BX0_13 cBX0_13 BG0_13 cBG0_13 R0_13 G0_13 V0_13
  have H0_14 := ho0
  have UH0 := H0_14.cut (Nat.le_refl _)
  clear ho0
  clear ht hb
  go_wp2_with fail
  clear V0_14 UV0
  refine (eqMx_any _ _ (duL xss0) _ _ _ (H0_14.o.rd.below (by repeat (first | exact Below.refl _ _ | assumption | refine Below.alloc ?_ (by first | exact Nat.le_refl _ | (simp only [World.size_alloc, World.size_setCell, World.size_drew]; omega) | omega) _ | refine Below.setCell ?_ (by first | exact Nat.le_refl _ | (simp only [World.size_alloc, World.size_setCell, World.size_drew]; omega) | omega) _ | refine Below.drew ?_))) (R0_14.o.rd.below (by repeat (first | exact Below.refl _ _ | assumption | refine Below.alloc ?_ (by first | exact Nat.le_refl _ | (simp only [World.size_alloc, World.size_setCell, World.size_drew]; omega) | omega) _ | refine Below.setCell ?_ (by first | exact Nat.le_refl _ | (simp only [World.size_alloc, World.size_setCell, World.size_drew]; omega) | omega) _ | refine Below.drew ?_)))).mono ?_
  rintro e w15 ⟨rfl, hb⟩
  have ht : Below w14.heap.size w14 w15 := Below.trans (by repeat (first | exact Below.refl _ _ | assumption | refine Below.alloc ?_ (by first | exact Nat.le_refl _ | (simp only [World.size_alloc, World.size_setCell, World.size_drew]; omega) | omega) _ | refine Below.setCell ?_ (by first | exact Nat.le_refl _ | (simp only [World.size_alloc, World.size_setCell, World.size_drew]; omega) | omega) _ | refine Below.drew ?_)) (hb.mono (by first | (simp only [World.size_alloc, World.size_setCell, World.size_drew]; omega) | omega))
  have z15 : w14.heap.size ≤ w15.heap.size := ht.size
  have bw15 : Below w.heap.size w w15 := bw14.trans (ht.mono bw14.size)
  have A0_15 := A0_14.below ht
  have BR0_15 := BR0_14.below ht
  have BX0_15 := BX0_14.below ht
  have BG0_15 := BG0_14.below ht
  have BH0_15 : Box1 w15 w14.heap.size (.slice pH0 (duL xss0).length qH0) := (Box1.new w14 _ 27).below hb
  have ⟨zA0_15, cA0_15⟩ := A0_15
  have ⟨zBR0_15, cBR0_15⟩ := BR0_15
  have ⟨zBX0_15, cBX0_15⟩ := BX0_15
  have ⟨zBG0_15, cBG0_15⟩ := BG0_15
  have ⟨zBH0_15, cBH0_15⟩ := BH0_15
  have R0_15 := R0_14.below ht (Nat.le_refl _)
  have G0_15 := G0_14.below ht (Nat.le_refl _)
  have H0_15 := H0_14.below ht (Nat.le_refl _)
  clear A0_14 cA0_14 BR0_14 cBR0_14 BX0_14 cBX0_14 BG0_14 cBG0_14 R0_14 G0_14 H0_14
  clear ht hb
  go_wp2_with fail
  refine (heldMx_any _ _ (duL xss0) _ _ (by omega) (by omega) hR0 G0_15.o.rd).mono ?_
  rintro e w16 ⟨rfl, hb⟩
  have ht : Below w15.heap.size w15 w16 := hb
  have z16 : w15.heap.size ≤ w16.heap.size := ht.size
  have bw16 : Below w.heap.size w w16 := bw15.trans (ht.mono bw15.size)
  have A0_16 := A0_15.below ht
  have BR0_16 := BR0_15.below ht
  have BX0_16 := BX0_15.below ht
  have BG0_16 := BG0_15.below ht
  have BH0_16 := BH0_15.below ht
  have ⟨zA0_16, cA0_16⟩ := A0_16
  have ⟨zBR0_16, cBR0_16⟩ := BR0_16
  have ⟨zBX0_16, cBX0_16⟩ := BX0_16
  have ⟨zBG0_16, cBG0_16⟩ := BG0_16
  have ⟨zBH0_16, cBH0_16⟩ := BH0_16
  have R0_16 := R0_15.below ht (Nat.le_refl _)
  have G0_16 := G0_15.below ht (Nat.le_refl _)
  have H0_16 := H0_15.below ht (Nat.le_refl _)
  clear A0_15 cA0_15 BR0_15 cBR0_15 BX0_15 cBX0_15 BG0_15 cBG0_15 BH0_15 cBH0_15 R0_15 G0_15 H0_15
  clear ht hb
  go_wp2_with fail
  go_ret
  exact ⟨rfl, bw16⟩

theorem rd_of_trod {H : Type} {enc : TypeId × Value → H} {W : World} {fuel : Nat} {c : Value} {y : DataW H × List MemPlace}
    (h : DataW.trod enc Try.prog W 0 (fun _ => true) true fuel 33 [c] = some y) : ∃ (a : Option Addr) (xs : List Int) (cap : Nat), c = .slice a xs.length cap ∧ Rd W a xs ∧ ∀ k, k < xs.length → (Lit.int .i64 (nth xs k)).wf = true := by
  rcases Go.ChangeShapes.open_ints Try.underlying33 Try.underlying3 (by kernel_rfl) h with ⟨hcs, _⟩ | ⟨x, len, cap, zs, hcs, _, hl, hm, hz, _, hcell, hwf⟩
  · simp only [List.cons.injEq, and_true] at hcs
    exact ⟨none, [], 0, hcs, ⟨by simp, fun k hk => by simp at hk⟩, fun k hk => by simp at hk⟩
  · simp only [List.cons.injEq, and_true] at hcs
    simp only [if_true] at hz
    have hlen : (zs.take len).length = len := by rw [List.length_take]; omega
    have hn : ∀ k, k < len → nth (zs.take len) k = zs.getD k 0 := by
      intro k hk
      simp only [nth, List.getD_eq_getElem?_getD, List.getElem?_take, hk, if_true]
    refine ⟨some x, zs.take len, cap, by rw [hlen]; exact hcs, ⟨by rw [hlen]; unfold maxLen at hm; omega, fun k hk => ?_⟩, fun k hk => ?_⟩
    · rw [hlen] at hk
      obtain ⟨b, off, sp⟩ := x
      have h0 := hcell 0 (by omega)
      have hsp : sp = none := by simpa [Addr.add] using World.cell?_spot h0
      subst hsp
      have hk' := hcell k (by omega)
      rw [Addr.add_lit] at hk'
      exact ⟨b, off, rfl, World.block_lt_of_cell? _ _ h0, by rw [hk', hn k hk]⟩
    · rw [hlen] at hk
      rw [hn k hk]
      have hk2 : k < zs.length := by omega
      exact hwf _ (by rw [List.getD_eq_getElem?_getD, List.getElem?_eq_getElem hk2]; exact List.getElem_mem hk2)

theorem own : ownKnob Try.prog.godebug = none := by kernel_rfl
theorem laidOut : laidOutB Try.prog = true := by kernel_rfl
theorem wf_bd {n : Int} (h : (Lit.int .i64 n).wf = true) : -9223372036854775808 ≤ n ∧ n ≤ 9223372036854775807 := by
  simp [Lit.wf, IntKind.min, IntKind.max, IntKind.bits, IntKind.signed] at h
  omega

theorem rdS_of_trod {H : Type} {enc : TypeId × Value → H} {W : World} {fuel : Nat} {c : Value} {y : DataW H × List MemPlace}
    (h : DataW.trod enc Try.prog W 0 (fun _ => true) true fuel 22 [c] = some y) : ∃ (a : Option Addr) (xss : List (List Int)) (cap : Nat), c = .slice a xss.length cap ∧ RdS W a xss := by
  rcases Go.Deep.open_int_rows Try.underlying22 Try.underlying33 Try.underlying3 (by kernel_rfl) (by kernel_rfl) h with ⟨hcs, _⟩ | ⟨x, len, cap, A, L, C, Z, hcs, _, hl, hm, _, hr⟩
  · simp only [List.cons.injEq, and_true] at hcs
    exact ⟨none, [], 0, hcs, ⟨by simp, fun k hk => by simp at hk⟩⟩
  · simp only [List.cons.injEq, and_true] at hcs
    have hlen : ((List.range len).map fun r => (Z r).take (L r)).length = len := by simp
    refine ⟨some x, (List.range len).map fun r => (Z r).take (L r), cap, by rw [hlen]; exact hcs, ⟨by rw [hlen]; unfold maxLen at hm; omega, fun k hk => ?_⟩⟩
    rw [hlen] at hk
    rw [show rowL ((List.range len).map fun r => (Z r).take (L r)) k = (Z k).take (L k) by simp [rowL, hk]]
    obtain ⟨b, off, sp⟩ := x
    obtain ⟨h0, hLC, hCm, hZ, hwf, hnone, hcell⟩ := hr k (by omega)
    have hsp : sp = none := by simpa [Addr.add] using World.cell?_spot (hr 0 (by omega)).1
    subst hsp
    rw [Addr.add_lit] at h0
    have hlz : ((Z k).take (L k)).length = L k := by rw [List.length_take]; omega
    refine ⟨b, off, A k, C k, rfl, World.block_lt_of_cell? _ _ h0, by rw [hlz]; exact h0, ⟨by rw [hlz]; unfold maxLen at hCm; omega, fun c hc => ?_⟩⟩
    rw [hlz] at hc
    cases hA : A k with
    | none => have := hnone hA; omega
    | some a' =>
      have h1 := (hcell a' hA).2 c (by omega)
      obtain ⟨b', off', sp'⟩ := a'
      have hsp' : sp' = none := by simpa [Addr.add] using World.cell?_spot ((hcell _ hA).2 0 (by omega))
      subst hsp'
      rw [Addr.add_lit] at h1
      refine ⟨b', off', rfl, World.block_lt_of_cell? _ _ h1, ?_⟩
      rw [h1]
      simp [nth, List.getD_eq_getElem?_getD, List.getElem?_take, hc]

theorem cellsM : Try.prog.cellsOf 24 = 1 := by kernel_rfl
open Go.ChangeShapes Go.WideShapes Go.ChangeAt Go.RowKit in
theorem open_agg1 {H : Type} {enc : TypeId × Value → H} {P : Program} {w : World} {base : Nat} {spare : Nat → Bool} {held : Bool} {r : Reach} {b0 : Nat} {t : TypeId} {f0 : Field} {v : Value} {d : DataW H} {p : List MemPlace} (hs : P.underlying t = some (.struct #[f0])) (hone : f0.offset = 0 ∧ P.cellsOf f0.type = 1) (hC : P.cellsOf t = 1)
    (hv : Value.okWide P w r b0 t v) (h : DataW.Trod enc P w base spare held t v d p) :
    ∃ (v0 : Value) (y0 : DataW H × List MemPlace) (n : Nat), v = .agg #[v0] ∧ d = .agg [y0.1] ∧ p = y0.2 ∧ DataW.trod enc P w base spare held n f0.type [v0] = some y0 := by
  obtain ⟨cs, rfl, hsz⟩ := okWide_struct hs hv
  rw [hC] at hsz
  obtain ⟨l⟩ := cs
  obtain ⟨c0, rfl⟩ : ∃ c0, l = [c0] := by
    match l, hsz with
    | [c], _ => exact ⟨c, rfl⟩
  obtain ⟨fuel, hf⟩ := h
  obtain ⟨y0, n, hx, _, h0⟩ := trod_struct1 hs hf
  simp only [Prod.mk.injEq] at hx
  refine ⟨c0, y0, n, rfl, hx.1, hx.2, by simpa [Value.cells, hone.1, hone.2] using h0⟩

open Go.ChangeShapes Go.WideShapes Go.ChangeAt Go.RowKit in
set_option maxRecDepth 100000 in
theorem lifted (os : Os) (started : os.Started) (H : Type) (enc : TypeId × Value → H) :
    ReturnsInHanded {} Try.checked os 7 .any (Rows.fnExactDualMatrixSpec.pre6 enc Try.prog Try.f7 Rows.fnExactDualMatrixRow.domain false) (Rows.fnExactDualMatrixSpec.post enc Try.prog Try.f7 false true false false) := by
  refine returnsInHanded_of_change (C := Try.checked) own started (by kernel_rfl) Try.func7
    (ChangeSpec.witness6 (enc := enc) (C := Try.checked) false ⟨#[], #[.agg #[.slice none 0 0]], []⟩ 8 (by kernel_rfl) (by kernel_rfl) (by kernel_rfl) (by kernel_rfl)) ?_
  intro W base args ds gs before hval0 hW hcnd _
  have hval : ∀ (j : Nat) t v, Try.f7.params[j]? = some t → args[j]? = some v → Value.okWide Try.prog W .any base t v := hval0
  have hW' := hW
  obtain ⟨p, q, hA0, hV, rfl, hfz, hnd⟩ := hW
  have hA : DataW.TrodAll enc Try.prog W 0 (fun _ => true) true Try.f7.params.toList args.toList ds p := hA0
  rw [Try.params7] at hA hval
  obtain ⟨v0, vs0, d0, ds0, p0, q0, hargs, rfl, rfl, h0, r0⟩ := trodAll_cons hA
  obtain ⟨rfl, rfl, rfl⟩ := trodAll_nil r0
  obtain rfl : args = #[v0] := by cases args; simp_all
  obtain ⟨rfl, rfl⟩ := trodVars_none hV
  have lt0 : ∀ x ∈ p0, x.block < W.heap.size := by obtain ⟨m, hm⟩ := h0; exact DataW.trod_lt m _ _ _ hm
  obtain ⟨c00, y00, m0, rfl, hd0, hp0, hy00⟩ := open_agg1 Try.underlying24 ⟨by kernel_rfl, by kernel_rfl⟩ cellsM (hval 0 24 v0 rfl rfl) h0
  obtain ⟨a0, xss0, cap0, rfl, rd0⟩ := rdS_of_trod hy00
  clear hA0 hval0
  refine (walk a0 xss0 cap0 W rd0).mono fun e W' ⟨he, bel⟩ => ?_
  subst he
  exact ⟨_, rfl, _, _, _, [], _, [], hW', trodAll_mk1 (shut_bool Try.underlying4 _), (trodAll_cons_mk (Below.trod laidOut (by kernel_rfl) (of_decide_eq_true (by kernel_rfl)) h0 bel lt0) trodAll_mk0), rfl, bel.frame _, fun h => by cases h⟩
theorem proved : Rows.FnExactDualMatrixSaid :=
  OpenClaim.holds_of_wide 7 Try.f7 rfl rfl rfl rfl rfl rfl rfl ⟨rfl, rfl, rfl, rfl, rfl⟩ rfl rfl rfl rfl rfl (by kernel_rfl) Try.func7 (by kernel_rfl)
    (of_decide_eq_true (by kernel_rfl)) (by unfold Func.isWrapper; first | (rw [if_pos (by decide +kernel)]; kernel_rfl) | (rw [if_neg (by decide +kernel)]; exact ⟨rfl, rfl⟩))
    (fun os started H enc _ => lifted os started H enc)

end Go.Proofs.Ytcklfnpgnbhklaa.dualMatrix
