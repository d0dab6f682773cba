/- PROVED: the law FnSetsAlong returns true for every input, and each of its arguments reads afterwards as before. No conditions. -/
import Derived.Test.YtjddjfckflgojaaRows
import Derived.WalkKit
import Derived.WalkSpells
import Derived.WalkLawsBesides
import Derived.Deep.QuietTactic
import Derived.BigQuiet
import Derived.ProofKit
import Derived.OpenShut
import Derived.ShutString
import Derived.ChangeOld
import Derived.Below
import Derived.Lib.SmallJoins
import Derived.Lib.Hide
import Derived.Maps.AppendAt
import Derived.Deep.AppendLies
import Derived.Deep.RegionHeld3
import Derived.Deep.DeepCutAuto
import Derived.StillTail
import Derived.Shelf.Small.Bits
import Derived.Shelf.Small.Wraps
import Derived.Shelf.Strconv.Itoa0
import Derived.Shelf.Sort.Plain
import Derived.Shelf.Slices.Equal
import Derived.Shelf.Slices.CompactI
import Derived.Shelf.Slices.SearchI
import Derived.Shelf.Slices.Cells
import Derived.Shelf.Slices.In.SortNone
import Derived.Shelf.Slices.Empties2
import Derived.Sort.OwnSortedInts
import Derived.Lib.SlicesCompact
import Derived.Lib.RowBridge
import Derived.Test.YtjddjfckflgojaaSetsAlongP2
namespace Go.Proofs.Ytjddjfckflgojaa.setsAlong
open Go Go.RowKit
set_option linter.unusedVariables false
set_option linter.unusedSimpArgs false
set_option maxHeartbeats 400000
open Go.Shelf
/-- the row while the right end of k is being found -/
def endRow (xs : List Int) (k j : Nat) : List Int := ((rowP (lv xs) (rtE xs) xs.length k).set (k * 2) (lv xs k)).set (k * 2 + 1) (rtTo 0 xs k j)
theorem endRow_len (xs : List Int) {k : Nat} (j : Nat) (h : k ≤ xs.length) : (endRow xs k j).length = xs.length * 2 := by
  rw [endRow, List.length_set, List.length_set, rowP_len _ _ h]
theorem endRow_zero (xs : List Int) {k : Nat} (h : k < xs.length) : (rowP (lv xs) (rtE xs) xs.length k).set (k * 2) (lv xs k) = endRow xs k 0 := by
  have hl := rowP_len (lv xs) (rtE xs) (Nat.le_of_lt h)
  apply nth_ext' (by rw [endRow_len xs 0 (by omega), List.length_set, hl])
  intro i hi
  rw [List.length_set, hl] at hi
  rw [endRow, nth_set' (xs := (rowP (lv xs) (rtE xs) xs.length k).set (k * 2) (lv xs k)) (by rw [List.length_set, hl]; omega)]
  by_cases e : k * 2 + 1 = i
  · subst e
    rw [if_pos rfl, nth_set' (by rw [hl]; omega), if_neg (by omega), rowP_nth _ _ (by omega) hi, if_neg (by omega)]
    rfl
  · rw [if_neg e]
theorem endRow_end (xs : List Int) {k : Nat} (h : k < xs.length) : endRow xs k xs.length = rowP (lv xs) (rtE xs) xs.length (k + 1) := rowP_next _ _ h
theorem endRow_set (xs : List Int) (k j : Nat) (y : Int) : (endRow xs k j).set (k * 2 + 1) y = ((rowP (lv xs) (rtE xs) xs.length k).set (k * 2) (lv xs k)).set (k * 2 + 1) y := by
  rw [endRow, List.set_set]
theorem endRow_nth (xs : List Int) {k : Nat} (j : Nat) (h : k < xs.length) : nth (endRow xs k j) (k * 2 + 1) = rtTo 0 xs k j := by
  rw [endRow, nth_set' (by rw [List.length_set, rowP_len _ _ (by omega)]; omega), if_pos rfl]
theorem endRow_yes {xs : List Int} {k j : Nat} (h : hasB (nth xs k) j = true) : endRow xs k (j+1) = endRow xs k j := by
  rw [endRow, endRow, rtTo, if_pos h]
theorem iEnds_any (n : Int) (a : Option Addr) (xs : List Int) (cap : Nat) (w : World) (hn : -9223372036854775808 ≤ n ∧ n ≤ 9223372036854775807) (hx : Rd w a xs) :
    Calls Try.prog 43 #[.agg #[.int .i64 n, .slice a xs.length cap]] w (GotV w (endN n xs) (endL n xs) (isIv n xs)) := by
  have hx1 := hx.alloc (.cells #[.int .i64 n, .slice a xs.length cap] 26)
  obtain ⟨i0, hi, hz0, hz1, hz2⟩ := info_parts infoIv
  cases hr : isIv n xs
  · have H1 : Hid (endN n xs = 0) := by simp [Hid, endN, hr]
    have H2 : Hid (endL n xs = []) := by simp [Hid, endL, hr]
    have H3 : Hid (levL n xs = []) := by simp [Hid, levL, hr]
    have HR := Lib.hid hr
    clear hr
    go_enter Try.func43, Try.ntmps43
    go_wp2_with fail
    refine (iLevels_any _ _ _ _ _ hn hx1).mono ?_
    rw [HR.out, H3.out]
    rintro e w1 ⟨a1, cap1, rfl, ho1, hb1⟩
    have bw1 : Below w.heap.size w w1 := Below.trans (by repeat (first | exact Below.refl _ _ | assumption | refine Below.alloc ?_ (by first | exact Nat.le_refl _ | (simp only [World.size_alloc, World.size_setCell, World.size_drew]; omega) | omega) _ | refine Below.setCell ?_ (by first | exact Nat.le_refl _ | (simp only [World.size_alloc, World.size_setCell, World.size_drew]; omega) | omega) _ | refine Below.drew ?_)) (hb1.mono (by first | (simp only [World.size_alloc, World.size_setCell, World.size_drew]; omega) | omega))
    clear ho1
    go_wp2_with fail
    refine bodyPost_ret (v := .tuple #[.slice none 0 0, .bool false]) (by simp [results, Try.results43, go_sem]) rfl ?_
    exact ⟨none, 0, by rw [H1.out], by rw [H1.out, H2.out]; exact OwnV.nil _ _, bw1⟩
  · have ho := isIv_ord hr
    have hp := ord_rel ho
    have H1 : Hid (endN n xs = xs.length) := by simp [Hid, endN, hr]
    have H2 : Hid (endL n xs = endp xs xs.length) := by simp [Hid, endL, hr]
    have H3 : Hid (levL n xs = levs xs xs.length) := by simp [Hid, levL, hr]
    have HR := Lib.hid hr
    obtain rfl : n = (xs.length : Int) := hp.len.symm
    have hl10 : xs.length ≤ 10 := by have := hp.n1; omega
    clear hr ho
    go_enter Try.func43, Try.ntmps43
    go_wp2_with fail
    refine (iLevels_any _ _ _ _ _ hn hx1).mono ?_
    rw [HR.out, H3.out, levs_len]
    rintro e w1 ⟨a1, cap1, rfl, ho1, hb1⟩
    have A1 : Box2 w1 w.heap.size (.int .i64 (xs.length : Int)) (.slice a xs.length cap) := (Box2.new w _ _ _).below hb1
    have bw1 : Below w.heap.size w w1 := Below.trans (by repeat (first | exact Below.refl _ _ | assumption | refine Below.alloc ?_ (by first | exact Nat.le_refl _ | (simp only [World.size_alloc, World.size_setCell, World.size_drew]; omega) | omega) _ | refine Below.setCell ?_ (by first | exact Nat.le_refl _ | (simp only [World.size_alloc, World.size_setCell, World.size_drew]; omega) | omega) _ | refine Below.drew ?_)) (hb1.mono (by first | (simp only [World.size_alloc, World.size_setCell, World.size_drew]; omega) | omega))
    have ⟨zA, cA, dA⟩ := A1
    have hrl : Rd w1 a1 (levs xs xs.length) := ho1.rd
    clear hb1 ho1
    go_wp2_with (at_make; refine wpList_make_full _ rfl (.tmp 19) (.tmp 19) 47 rfl w1.heap.size 54 i0 (.agg #[.int .i64 0, .int .i64 0]) 2 Try.underlying47 hi hz0 hz1 .i64 .i64 _ _ xs.length rfl rfl rfl rfl (by rw [hz2]; omega) (by unfold maxLen; omega) (Nat.le_refl _) ?_; intro w2 hown hgrow; have A2 := A1.kept hgrow (by simp))
    have hb2 : Below w1.heap.size w1 w2 := (Below.refl _ _).grown hgrow (Nat.le_refl _) (fun k h => by cases h)
    have hown0 := made_rowP (lv xs) (rtE xs) hown
    clear hown hgrow cA dA
    go_wp2_with fail
    go_loopw [23] (fun i wr => ∃ k : Nat, k ≤ xs.length ∧ i = .int .i64 k ∧ OwnV wr w1.heap.size (.slice (some ⟨w1.heap.size, 0, none⟩) xs.length xs.length) xs.length (rowP (lv xs) (rtE xs) xs.length k) ∧ Below w1.heap.size w1 wr ∧ Box2 wr w.heap.size (.int .i64 (xs.length : Int)) (.slice a xs.length cap)) (fun i _ => xs.length - (intOf i).toNat)
    case atStart => exact ⟨0, Nat.zero_le _, rfl, hown0, hb2, A2⟩
    case round =>
      obtain ⟨k, hk, rfl, hown, hb, hA⟩ := hrel
      by_cases hlt : k < xs.length
      · obtain ⟨b, off, rfl, hbl, hck⟩ := (hrl.below hb).cell k (by rw [levs_len]; exact hlt)
        rw [levs_nth xs hlt] at hck
        have k0 : (0 : Int) ≤ (k : Int) := by omega
        have k1 : (k : Int) < (xs.length : Int) := by omega
        have hpl := rowP_len (lv xs) (rtE xs) hk
        have ⟨c1, f1⟩ := hown.at' (i := k * 2) (by omega)
        have p1 := hown.put (k * 2) (lv xs k)
        rw [endRow_zero xs hlt] at p1
        have P1 := Lib.hid p1.1
        have A3 := hA.kept p1.2 (by simp; omega)
        have b3 := hb.setCell (p := ⟨w1.heap.size, k * 2, none⟩) (Nat.le_refl _) (.int .i64 (lv xs k))
        clear hown p1 hpl
        go_wp2_with fail
        go_loopw [35] (fun i' wi => ∃ j : Nat, j ≤ xs.length ∧ i' = .int .i64 j ∧ OwnV wi w1.heap.size (.slice (some ⟨w1.heap.size, 0, none⟩) xs.length xs.length) xs.length (endRow xs k j) ∧ Below w1.heap.size w1 wi ∧ Box2 wi w.heap.size (.int .i64 (xs.length : Int)) (.slice a xs.length cap)) (fun i _ => xs.length - (intOf i).toNat)
        case atStart => exact ⟨0, Nat.zero_le _, rfl, P1.out, b3, A3⟩
        case round =>
          obtain ⟨j, hj, rfl, hown, hb, hA⟩ := hrel
          have ⟨zB, cB, dB⟩ := hA
          by_cases hjl : j < xs.length
          · obtain ⟨b2, off2, e2, hbl2, hcj⟩ := (hrl.below hb).cell j (by rw [levs_len]; exact hjl)
            simp only [Option.some.injEq, Addr.mk.injEq, and_true] at e2
            obtain ⟨rfl, rfl⟩ := e2
            rw [levs_nth xs hjl] at hcj
            obtain ⟨b3, off3, rfl, hbl3, hc3⟩ := (hx.below (bw1.trans (hb.mono bw1.size))).cell k hlt
            have s0 := hp.pos k hlt
            have s2 : nth xs k ≤ 9223372036854775807 := by have := hp.small k hlt; omega
            have j0 : (0 : Int) ≤ (j : Int) := by omega
            have j1 : (j : Int) < (xs.length : Int) := by omega
            cases hhas : hasB (nth xs k) j
            · have hel := endRow_len xs (k := k) j hk
              have ⟨c2, f2⟩ := hown.at' (i := k * 2 + 1) (by omega)
              rw [endRow_nth xs j hlt] at c2
              have ⟨r0, r1⟩ := rtTo_bd (st := 0) (xs := xs) (i := k) (k := j) (by omega) (by omega)
              have ⟨l0, l1⟩ := lv_bd xs j
              have p2 := hown.put (k * 2 + 1) (rtTo 0 xs k (j + 1))
              rw [endRow_set] at p2
              have P2 := Lib.hid p2.1
              have A4 := hA.kept p2.2 (by simp; omega)
              have b4 := hb.setCell (p := ⟨w1.heap.size, k * 2 + 1, none⟩) (Nat.le_refl _) (.int .i64 (rtTo 0 xs k (j + 1)))
              have hmx : max (rtTo 0 xs k j) (lv xs j) = rtTo 0 xs k (j + 1) := by rw [rtTo_no hhas, maxI]; split <;> omega
              have HM := Lib.hid hmx
              clear p2 hel hown hmx
              go_wp2_with (go_at_call 60; refine (hasElement_any _ _ _ (by assumption) (by assumption) (by assumption)).mono ?_; rintro e w' ⟨rfl, rfl⟩)
              go_roundw
              case rel => rw [HM.out]; exact ⟨j + 1, by omega, by go_num, P2.out, b4, A4⟩
              case measure => simp [intOf]; omega
            · have HE := Lib.hid (endRow_yes hhas)
              go_wp2_with (go_at_call 60; refine (hasElement_any _ _ _ (by assumption) (by assumption) (by assumption)).mono ?_; rintro e w' ⟨rfl, rfl⟩)
              go_roundw
              case rel => exact ⟨j + 1, by omega, by go_num, by rw [HE.out]; exact hown, hb, hA⟩
              case measure => simp [intOf]; omega
          · obtain rfl : j = xs.length := by omega
            rw [endRow_end xs hlt] at hown
            go_wp2_with fail
            go_roundw
            case rel => exact ⟨k + 1, by omega, by go_num, hown, hb, hA⟩
            case measure => simp [intOf]; omega
      · obtain rfl : k = xs.length := by omega
        rw [rowP_end] at hown
        go_wp2_with fail
        refine bodyPost_ret (v := .tuple #[.slice (some ⟨w1.heap.size, 0, none⟩) xs.length xs.length, .bool true]) (by simp [results, Try.results43, go_sem]) rfl ?_
        exact ⟨some ⟨w1.heap.size, 0, none⟩, xs.length, by rw [H1.out], by rw [H1.out, H2.out]; exact hown.mono bw1.size, bw1.trans (hb.mono bw1.size)⟩

theorem ret_ib' {a a' : Int} {b b' : Bool} (h1 : a = a') (h2 : b = b') : Ending.returned (.tuple #[.int .i64 a, .bool b]) = .returned (.tuple #[.int .i64 a', .bool b']) := by rw [h1, h2]

theorem iMagnitude_any (n : Int) (a : Option Addr) (xs : List Int) (cap : Nat) (w : World) (hn : -9223372036854775808 ≤ n ∧ n ≤ 9223372036854775807) (hx : Rd w a xs) :
    Calls Try.prog 44 #[.agg #[.int .i64 n, .slice a xs.length cap]] w fun e w' => e = .returned (.tuple #[.int .i64 (magF n xs), .bool (isIv n xs)]) ∧ Below w.heap.size w w' := by
  have hx1 := hx.alloc (.cells #[.int .i64 n, .slice a xs.length cap] 26)
  cases hr : isIv n xs
  · have H1 : Hid (magF n xs = 0) := by simp [Hid, magF, hr]
    have HR := Lib.hid hr
    clear hr
    go_enter Try.func44, Try.ntmps44
    go_wp2_with fail
    refine (iIsInterval_any _ _ _ _ _ hn hx1).mono ?_
    rw [HR.out]
    rintro e w1 ⟨rfl, hb1⟩
    have bw1 : Below w.heap.size w w1 := Below.trans (by repeat (first | exact Below.refl _ _ | assumption | refine Below.alloc ?_ (by first | exact Nat.le_refl _ | (simp only [World.size_alloc, World.size_setCell, World.size_drew]; omega) | omega) _ | refine Below.setCell ?_ (by first | exact Nat.le_refl _ | (simp only [World.size_alloc, World.size_setCell, World.size_drew]; omega) | omega) _ | refine Below.drew ?_)) (hb1.mono (by first | (simp only [World.size_alloc, World.size_setCell, World.size_drew]; omega) | omega))
    go_wp2_with fail
    go_ret2
    exact ⟨ret_ib' H1.out.symm rfl, bw1⟩
  · have ho := isIv_ord hr
    have hp := ord_rel ho
    have hsl := sets_len xs
    have hl10 : xs.length ≤ 10 := by have := hp.len; have := hp.n1; omega
    have H1 : Hid (magF n xs = ((sets xs).length : Int)) := by rw [Hid, magF, if_pos hr]
    have HR := Lib.hid hr
    have HO := Lib.hid ho
    clear hr ho
    go_enter Try.func44, Try.ntmps44
    go_wp2_with fail
    refine (iIsInterval_any _ _ _ _ _ hn hx1).mono ?_
    rw [HR.out, HO.out]
    rintro e w1 ⟨rfl, hb1⟩
    have A1 : Box2 w1 w.heap.size (.int .i64 n) (.slice a xs.length cap) := (Box2.new w _ _ _).below hb1
    have bw1 : Below w.heap.size w w1 := Below.trans (by repeat (first | exact Below.refl _ _ | assumption | refine Below.alloc ?_ (by first | exact Nat.le_refl _ | (simp only [World.size_alloc, World.size_setCell, World.size_drew]; omega) | omega) _ | refine Below.setCell ?_ (by first | exact Nat.le_refl _ | (simp only [World.size_alloc, World.size_setCell, World.size_drew]; omega) | omega) _ | refine Below.drew ?_)) (hb1.mono (by first | (simp only [World.size_alloc, World.size_setCell, World.size_drew]; omega) | omega))
    have ⟨zA, cA, dA⟩ := A1
    clear hb1
    go_wp2_with fail
    refine (lowerSets_any _ _ _ _ _ (hx.below bw1) hp).mono ?_
    rintro e w2 ⟨a2, cap2, rfl, ho2, hb2⟩
    clear ho2
    go_wp2_with fail
    go_ret2
    exact ⟨ret_ib' H1.out.symm rfl, bw1.trans (hb2.mono bw1.size)⟩

theorem iAlong_any (n : Int) (a : Option Addr) (xs : List Int) (cap : Nat) (w : World) (hn : -9223372036854775808 ≤ n ∧ n ≤ 9223372036854775807) (hx : Rd w a xs) :
    Calls Try.prog 45 #[.agg #[.int .i64 n, .slice a xs.length cap]] w fun e w' => ∃ a' cap', e = .returned (.tuple #[.slice a' (alL n xs).length cap', .bool (isIv n xs)]) ∧ OwnI w' w.heap.size (.slice a' (alL n xs).length cap') (alL n xs) ∧ Below w.heap.size w w' := by
  have hx1 := hx.alloc (.cells #[.int .i64 n, .slice a xs.length cap] 26)
  obtain ⟨i0, hi, hz0, hz1, hz2⟩ := info_parts infoInt
  cases hr : isIv n xs
  · have H1 : Hid (endN n xs = 0) := by simp [Hid, endN, hr]
    have H2 : Hid (endL n xs = []) := by simp [Hid, endL, hr]
    have H3 : Hid (alL n xs = []) := by simp [Hid, alL, hr]
    have HR := Lib.hid hr
    clear hr
    go_enter Try.func45, Try.ntmps45
    go_wp2_with fail
    refine (iEnds_any _ _ _ _ _ hn hx1).mono ?_
    rw [HR.out, H1.out, H2.out]
    rintro e w1 ⟨a1, cap1, rfl, ho1, hb1⟩
    have bw1 : Below w.heap.size w w1 := Below.trans (by repeat (first | exact Below.refl _ _ | assumption | refine Below.alloc ?_ (by first | exact Nat.le_refl _ | (simp only [World.size_alloc, World.size_setCell, World.size_drew]; omega) | omega) _ | refine Below.setCell ?_ (by first | exact Nat.le_refl _ | (simp only [World.size_alloc, World.size_setCell, World.size_drew]; omega) | omega) _ | refine Below.drew ?_)) (hb1.mono (by first | (simp only [World.size_alloc, World.size_setCell, World.size_drew]; omega) | omega))
    clear ho1
    go_wp2_with fail
    refine bodyPost_ret (v := .tuple #[.slice none 0 0, .bool false]) (by simp [results, Try.results45, go_sem]) rfl ?_
    exact ⟨none, 0, by rw [H3.out]; rfl, by rw [H3.out]; exact OwnI.nil _ _, bw1⟩
  · have ho := isIv_ord hr
    have hp := ord_rel ho
    have H1 : Hid (endN n xs = xs.length) := by simp [Hid, endN, hr]
    have H2 : Hid (endL n xs = endp xs xs.length) := by simp [Hid, endL, hr]
    have H3 : Hid (alL n xs = als xs (sets xs).length) := by simp [Hid, alL, hr]
    have H4 : Hid (magF n xs = ((sets xs).length : Int)) := by simp [Hid, magF, hr]
    have HR := Lib.hid hr
    have hl10 : xs.length ≤ 10 := by have := hp.len; have := hp.n1; omega
    have hsl := sets_len xs
    obtain ⟨M, hM⟩ : ∃ M, M = (sets xs).length := ⟨_, rfl⟩
    rw [← hM] at H3 H4 hsl
    have HM := Lib.hid hM
    clear hr ho hM
    go_enter Try.func45, Try.ntmps45
    go_wp2_with fail
    refine (iEnds_any _ _ _ _ _ hn hx1).mono ?_
    rw [HR.out, H1.out, H2.out]
    rintro e w1 ⟨a1, cap1, rfl, ho1, hb1⟩
    have A1 : Box2 w1 w.heap.size (.int .i64 n) (.slice a xs.length cap) := (Box2.new w _ _ _).below hb1
    have bw1 : Below w.heap.size w w1 := Below.trans (by repeat (first | exact Below.refl _ _ | assumption | refine Below.alloc ?_ (by first | exact Nat.le_refl _ | (simp only [World.size_alloc, World.size_setCell, World.size_drew]; omega) | omega) _ | refine Below.setCell ?_ (by first | exact Nat.le_refl _ | (simp only [World.size_alloc, World.size_setCell, World.size_drew]; omega) | omega) _ | refine Below.drew ?_)) (hb1.mono (by first | (simp only [World.size_alloc, World.size_setCell, World.size_drew]; omega) | omega))
    have ⟨zA, cA, dA⟩ := A1
    have hre : Rd w1 a1 (endp xs xs.length) := ho1.rd (by omega)
    clear hb1 ho1
    go_wp2_with fail
    refine (iMagnitude_any _ _ _ _ _ hn (hx.below bw1)).mono ?_
    rw [HR.out, H4.out]
    rintro e w2 ⟨rfl, hb2⟩
    have bw2 := bw1.trans (hb2.mono bw1.size)
    have hre2 := hre.below hb2
    clear hb2 cA dA
    go_wp2_with (at_make; refine wpList_make_full _ rfl (.tmp 22) (.tmp 22) 24 rfl w2.heap.size 3 i0 (.int .i64 0) 1 Try.underlying24 hi hz0 hz1 .i64 .i64 _ _ M rfl rfl rfl rfl (by rw [hz2]; omega) (by unfold maxLen; omega) (Nat.le_refl _) ?_; intro w3 hown hgrow)
    have hb3 : Below w2.heap.size w2 w3 := (Below.refl _ _).grown hgrow (Nat.le_refl _) (fun k h => by cases h)
    have hown0 := made_row (alE xs) hown
    clear hown hgrow
    go_wp2_with fail
    go_loopw [26] (fun i wr => ∃ k : Nat, k ≤ M ∧ i = .int .i64 k ∧ OwnI wr w2.heap.size (.slice (some ⟨w2.heap.size, 0, none⟩) M M) (rowF (alE xs) M k) ∧ Below w2.heap.size w2 wr) (fun i _ => M - (intOf i).toNat)
    case atStart => exact ⟨0, Nat.zero_le _, rfl, hown0, hb3⟩
    case round =>
      obtain ⟨k, hk, rfl, hown, hb⟩ := hrel
      by_cases hlt : k < M
      · have k0 : (0 : Int) ≤ (k : Int) := by omega
        have k1 : (k : Int) < (M : Int) := by omega
        go_wp2_with fail
        refine (cmpMeets_any _ _ _ _ _ _ (hre2.below hb) (endp_len _ _) hl10).mono ?_
        rintro e w4 ⟨rfl, hb4⟩
        have o4 := hown.below hb4 (Nat.le_refl _)
        have bw4 := hb.trans (hb4.mono hb.size)
        have hrl := rowF_len (alE xs) hk
        have ⟨ci, fi⟩ := o4.at' hrl.symm (i := k) (by omega)
        have hput := o4.put hrl.symm k (alE xs k)
        rw [rowF_set _ hlt] at hput
        have HP := Lib.hid hput.1
        have bw5 := bw4.setCell (p := ⟨w2.heap.size, k, none⟩) (Nat.le_refl _) (.int .i64 (alE xs k))
        have HE : Hid (((alTo (endp xs xs.length) (k : Int) xs.length : Nat) : Int) = alE xs k) := rfl
        rw [HE.out]
        clear hput hrl hown o4 hb4
        go_wp2_with fail
        go_roundw
        case rel => exact ⟨k + 1, by omega, by go_num, HP.out, bw5⟩
        case measure => simp [intOf]; omega
      · obtain rfl : k = M := by omega
        rw [rowF_end] at hown
        have hown2 : OwnI wr w2.heap.size (.slice (some ⟨w2.heap.size, 0, none⟩) k k) (als xs k) := hown
        clear hown
        go_wp2_with fail
        refine bodyPost_ret (v := .tuple #[.slice (some ⟨w2.heap.size, 0, none⟩) k k, .bool true]) (by simp [results, Try.results45, go_sem]) rfl ?_
        exact ⟨some ⟨w2.heap.size, 0, none⟩, k, by rw [H3.out, als_len], by rw [H3.out, als_len]; exact hown2.mono bw2.size, bw2.trans (hb.mono bw2.size)⟩

theorem mostTo_succ (l : List Int) (k : Nat) : maxI (mostTo l k) (nth l k) = mostTo l (k+1) := rfl
theorem ivMost_any (a : Option Addr) (l : List Int) (cap : Nat) (w : World) (hx : Rd w a l) :
    Calls Try.prog 97 #[.slice a l.length cap] w fun e w' => e = .returned (.int .i64 (mostTo l l.length)) ∧ w = w' := by
  have hlen := hx.len
  go_enter Try.func97, Try.ntmps97
  go_wp2_with fail
  go_loop [3, 8] (fun m i => ∃ k : Nat, k ≤ l.length ∧ i = .int .i64 k ∧ m = .int .i64 (mostTo l k)) (fun _ i => l.length - (intOf i).toNat)
  case atStart => exact ⟨0, Nat.zero_le _, rfl, rfl⟩
  case round =>
    obtain ⟨k, hk, rfl, rfl⟩ := hrel
    by_cases hlt : k < l.length
    · obtain ⟨b, off, rfl, hbl, hc⟩ := hx.cell k hlt
      have HM := Lib.hid (mostTo_succ l k)
      go_wp2_with (go_at_call 74; refine (l1Most_any _ _ _).mono ?_; rintro e w' ⟨rfl, rfl⟩)
      go_round
      case rel => exact ⟨k + 1, by omega, by go_num, val_int HM.out⟩
      case measure => simp [intOf]; omega
    · obtain rfl : k = l.length := by omega
      go_wp2_with fail
      go_ret
      exact ⟨rfl, rfl⟩

theorem ivEnds_any (n : Int) (a : Option Addr) (xs : List Int) (cap : Nat) (w : World) (hx : Rd w a xs) (ho : ordB n xs = true) :
    Calls Try.prog 93 #[.agg #[.int .i64 n, .slice a xs.length cap]] w fun e w' => ∃ a' cap', e = .returned (.slice a' xs.length cap') ∧ OwnV w' w.heap.size (.slice a' xs.length cap') xs.length (endp xs xs.length) ∧ Below w.heap.size w w' := by
  have hx1 := hx.alloc (.cells #[.int .i64 n, .slice a xs.length cap] 26)
  obtain ⟨i0, hi, hz0, hz1, hz2⟩ := info_parts infoIv
  have hp := ord_rel ho
  have HO := Lib.hid ho
  obtain rfl : n = (xs.length : Int) := hp.len.symm
  have hl10 : xs.length ≤ 10 := by have := hp.n1; omega
  clear ho
  go_enter Try.func93, Try.ntmps93
  go_wp2_with fail
  refine (ivLevels_any _ _ _ _ _ hx1 hp).mono ?_
  rintro e w1 ⟨a1, cap1, rfl, ho1, hb1⟩
  have A1 : Box2 w1 w.heap.size (.int .i64 (xs.length : Int)) (.slice a xs.length cap) := (Box2.new w _ _ _).below hb1
  have bw1 : Below w.heap.size w w1 := Below.trans (by repeat (first | exact Below.refl _ _ | assumption | refine Below.alloc ?_ (by first | exact Nat.le_refl _ | (simp only [World.size_alloc, World.size_setCell, World.size_drew]; omega) | omega) _ | refine Below.setCell ?_ (by first | exact Nat.le_refl _ | (simp only [World.size_alloc, World.size_setCell, World.size_drew]; omega) | omega) _ | refine Below.drew ?_)) (hb1.mono (by first | (simp only [World.size_alloc, World.size_setCell, World.size_drew]; omega) | omega))
  have hrl : Rd w1 a1 (levs xs xs.length) := ho1.rd
  clear hb1 ho1
  go_wp2_with fail
  go_loopw [4, 14] (fun v i wr => ∃ k : Nat, k ≤ xs.length ∧ i = .int .i64 k ∧ OwnV wr w1.heap.size v k (endp xs k) ∧ Below w1.heap.size w1 wr) (fun _ i _ => xs.length - (intOf i).toNat)
  case atStart => exact ⟨0, Nat.zero_le _, rfl, OwnV.nil _ _, Below.refl _ _⟩
  case round =>
    obtain ⟨k, hk, rfl, hown, hb⟩ := hrel
    obtain ⟨av, cv, rfl⟩ := hown.form
    obtain ⟨wo, rfl⟩ : ∃ wo : World, wo = wr := ⟨_, rfl⟩
    have hzr := hb.size
    by_cases hlt : k < xs.length
    · obtain ⟨b, off, rfl, hbl, hck⟩ := (hrl.below hb).cell k (by rw [levs_len]; exact hlt)
      rw [levs_nth xs hlt] at hck
      have ⟨l0, l1⟩ := lv_bd xs k
      go_wp2_with fail
      go_loopw [24] (fun i' wi => ∃ j : Nat, j ≤ xs.length ∧ i' = .int .i64 j ∧ Var2 wi wo.heap.size (.int .i64 (lv xs k)) (.int .i64 (rtTo (lv xs k) xs k j)) ∧ Below wo.heap.size wo wi) (fun i _ => xs.length - (intOf i).toNat)
      case atStart => exact ⟨0, Nat.zero_le _, rfl, Var2.new wo _ _ _, (by repeat (first | exact Below.refl _ _ | assumption | refine Below.alloc ?_ (by first | exact Nat.le_refl _ | (simp only [World.size_alloc, World.size_setCell, World.size_drew]; omega) | omega) _ | refine Below.setCell ?_ (by first | exact Nat.le_refl _ | (simp only [World.size_alloc, World.size_setCell, World.size_drew]; omega) | omega) _ | refine Below.drew ?_))⟩
      case round =>
        obtain ⟨j, hj, rfl, hV, hbj⟩ := hrel
        have ⟨⟨zV, cV, dV⟩, fV, gV⟩ := hV
        have bj := hb.trans (hbj.mono hb.size)
        have hzj := hbj.size
        by_cases hjl : j < xs.length
        · obtain ⟨b2, off2, e2, hbl2, hcj⟩ := (hrl.below bj).cell j (by rw [levs_len]; exact hjl)
          simp only [Option.some.injEq, Addr.mk.injEq, and_true] at e2
          obtain ⟨rfl, rfl⟩ := e2
          rw [levs_nth xs hjl] at hcj
          have hAj := A1.below bj
          have ⟨zA, cA, dA⟩ := hAj
          obtain ⟨b3, off3, rfl, hbl3, hc3⟩ := (hx.below (bw1.trans (bj.mono bw1.size))).cell k hlt
          have s0 := hp.pos k hlt
          have s2 : nth xs k ≤ 9223372036854775807 := by have := hp.small k hlt; omega
          have j0 : (0 : Int) ≤ (j : Int) := by omega
          have j1 : (j : Int) < (xs.length : Int) := by omega
          have k0 : (0 : Int) ≤ (k : Int) := by omega
          have k1 : (k : Int) < (xs.length : Int) := by omega
          cases hhas : hasB (nth xs k) j
          · have HM := Lib.hid (rtTo_no (st := lv xs k) hhas)
            go_wp2_with (first | (go_at_call 69; refine (orHas_any _ _ _ (by assumption) (by assumption) (by assumption)).mono ?_; rintro e w' ⟨rfl, rfl⟩) | (go_at_call 74; refine (l1Most_any _ _ _).mono ?_; rintro e w' ⟨rfl, rfl⟩))
            go_roundw
            case rel => exact ⟨j + 1, by omega, by go_num, by rw [HM.out]; exact hV.set1 _, hbj.setCell (p := ⟨wo.heap.size, 1, none⟩) (Nat.le_refl _) _⟩
            case measure => simp [intOf]; omega
          · have HM : Hid (rtTo (lv xs k) xs k (j + 1) = rtTo (lv xs k) xs k j) := by rw [Hid, rtTo, if_pos hhas]
            go_wp2_with (go_at_call 69; refine (orHas_any _ _ _ (by assumption) (by assumption) (by assumption)).mono ?_; rintro e w' ⟨rfl, rfl⟩)
            go_roundw
            case rel => exact ⟨j + 1, by omega, by go_num, by rw [HM.out]; exact hV, hbj⟩
            case measure => simp [intOf]; omega
        · obtain rfl : j = xs.length := by omega
          have o2 := hown.below hbj (Nat.le_refl _)
          have HE := Lib.hid (rtE_own HO.out hlt)
          rw [HE.out] at dV
          go_wp2_with (at_builtin; refine wpList_append_own _ rfl _ _ 47 rfl w1.heap.size 54 i0 (.agg #[.int .i64 0, .int .i64 0]) 2 16 Try.underlying47 hi hz0 hz1 hz2 rfl (by decide) (.slice av k cv) k ((endp xs k).map (Value.int .i64)) rfl (o2.alloc (.cells #[.int .i64 (lv xs k), .int .i64 (rtE xs k)] 54)) ⟨wr.heap.size, 0, none⟩ 1 1 [.int .i64 (lv xs k), .int .i64 (rtE xs k)] rfl rfl (cell_two_new _ _ _ _) (two_one _ _) (by unfold maxLen; omega) (by omega) (by simp; omega) ?_)
          intro v' w6 hown6 hgrow _
          have hg2 := grown_alloc_set hgrow
          have o6 : OwnV w6 w1.heap.size v' (k + 1) (endp xs (k + 1)) := by
            unfold OwnV endp
            rw [prs_succ, List.map_append]
            exact hown6
          have hU := o2.lt
          have bw6 := bj.trans (below_of_grown hg2 (fun c e => by have := hU c e; omega) bj.size)
          clear hown6 hgrow hU cV dV fV gV
          go_wp2_with fail
          go_roundw
          case rel => exact ⟨k + 1, by omega, by go_num, o6, bw6⟩
          case measure => simp [intOf]; omega
    · obtain rfl : k = xs.length := by omega
      go_wp2_with fail
      go_ret
      exact ⟨av, cv, rfl, hown.mono bw1.size, bw1.trans (hb.mono bw1.size)⟩

theorem ivRefuses_any (n : Int) (ad : Option Addr) (xs : List Int) (cap : Nat) (a b c d : Nat) (w : World) (hx : Rd w ad xs) (hr : RelP n xs) (ha : a < xs.length) (hc : c < xs.length) :
    Calls Try.prog 110 #[.agg #[.int .i64 n, .slice ad xs.length cap], .int .i64 a, .int .i64 b, .int .i64 c, .int .i64 d] w fun e w' => e = .returned (.bool (refB xs a b c d)) ∧ Below w.heap.size w w' := by
  have hx1 := hx.alloc (.cells #[.int .i64 n, .slice ad xs.length cap] 26)
  have hn : xs.length ≤ 10 := by have := hr.len; have := hr.n1; omega
  have pa := hr.pos a ha
  have sa : nth xs a ≤ 9223372036854775807 := by have := hr.small a ha; omega
  have pc := hr.pos c hc
  have sc : nth xs c ≤ 9223372036854775807 := by have := hr.small c hc; omega
  have b0 : (0 : Int) ≤ (b : Int) := by omega
  have d0 : (0 : Int) ≤ (d : Int) := by omega
  have a1 : (a : Int) < (xs.length : Int) := by omega
  have c1 : (c : Int) < (xs.length : Int) := by omega
  obtain ⟨bl, off, rfl, hbl, hca⟩ := hx1.cell a ha
  obtain ⟨b', off', e', hbl', hcc⟩ := hx1.cell c hc
  simp only [Option.some.injEq, Addr.mk.injEq, and_true] at e'
  obtain ⟨rfl, rfl⟩ := e'
  obtain ⟨b', off', e', hbl0, hca0⟩ := hx.cell a ha
  simp only [Option.some.injEq, Addr.mk.injEq, and_true] at e'
  obtain ⟨rfl, rfl⟩ := e'
  obtain ⟨b', off', e', hbl0, hcc0⟩ := hx.cell c hc
  simp only [Option.some.injEq, Addr.mk.injEq, and_true] at e'
  obtain ⟨rfl, rfl⟩ := e'
  cases h1 : hasB (nth xs a) b
  · have HF : Hid (refB xs a b c d = false) := by simp [Hid, refB, h1]
    go_enter Try.func110, Try.ntmps110
    go_wp2_with (go_at_call 69; refine (orHas_any _ _ _ (by assumption) (by assumption) (by assumption)).mono ?_; rintro e w' ⟨rfl, rfl⟩)
    go_ret
    exact ⟨ret_bool HF.out.symm, (by repeat (first | exact Below.refl _ _ | assumption | refine Below.alloc ?_ (by first | exact Nat.le_refl _ | (simp only [World.size_alloc, World.size_setCell, World.size_drew]; omega) | omega) _ | refine Below.setCell ?_ (by first | exact Nat.le_refl _ | (simp only [World.size_alloc, World.size_setCell, World.size_drew]; omega) | omega) _ | refine Below.drew ?_))⟩
  · cases h2 : hasB (nth xs c) d
    · have HF : Hid (refB xs a b c d = false) := by simp [Hid, refB, h2]
      go_enter Try.func110, Try.ntmps110
      go_wp2_with (go_at_call 69; refine (orHas_any _ _ _ (by assumption) (by assumption) (by assumption)).mono ?_; rintro e w' ⟨rfl, rfl⟩)
      go_ret
      exact ⟨ret_bool HF.out.symm, (by repeat (first | exact Below.refl _ _ | assumption | refine Below.alloc ?_ (by first | exact Nat.le_refl _ | (simp only [World.size_alloc, World.size_setCell, World.size_drew]; omega) | omega) _ | refine Below.setCell ?_ (by first | exact Nat.le_refl _ | (simp only [World.size_alloc, World.size_setCell, World.size_drew]; omega) | omega) _ | refine Below.drew ?_))⟩
    · cases h3 : hasB (nth xs c) b
      · have HF : Hid (refB xs a b c d = !hasB (nth xs a) d) := by simp [Hid, refB, h1, h2, h3]
        go_enter Try.func110, Try.ntmps110
        go_wp2_with (go_at_call 69; refine (orHas_any _ _ _ (by assumption) (by assumption) (by assumption)).mono ?_; rintro e w' ⟨rfl, rfl⟩)
        go_ret
        exact ⟨ret_bool HF.out.symm, (by repeat (first | exact Below.refl _ _ | assumption | refine Below.alloc ?_ (by first | exact Nat.le_refl _ | (simp only [World.size_alloc, World.size_setCell, World.size_drew]; omega) | omega) _ | refine Below.setCell ?_ (by first | exact Nat.le_refl _ | (simp only [World.size_alloc, World.size_setCell, World.size_drew]; omega) | omega) _ | refine Below.drew ?_))⟩
      · have HF : Hid (refB xs a b c d = false) := by simp [Hid, refB, h3]
        go_enter Try.func110, Try.ntmps110
        go_wp2_with (go_at_call 69; refine (orHas_any _ _ _ (by assumption) (by assumption) (by assumption)).mono ?_; rintro e w' ⟨rfl, rfl⟩)
        go_ret
        exact ⟨ret_bool HF.out.symm, (by repeat (first | exact Below.refl _ _ | assumption | refine Below.alloc ?_ (by first | exact Nat.le_refl _ | (simp only [World.size_alloc, World.size_setCell, World.size_drew]; omega) | omega) _ | refine Below.setCell ?_ (by first | exact Nat.le_refl _ | (simp only [World.size_alloc, World.size_setCell, World.size_drew]; omega) | omega) _ | refine Below.drew ?_))⟩

/-- nothing refuses ahead of the list k, l, m, o -/
def NoRef (xs : List Int) (k l m o : Nat) : Prop :=
  (∀ a, a < k → find1 (pairF xs a) xs.length = none) ∧ (∀ b, b < l → pairF xs k b = none) ∧ (∀ c, c < m → find1 (refF xs k l c) xs.length = none) ∧ ∀ d, d < o → refF xs k l m d = none
theorem NoRef.d {xs : List Int} {k l m o : Nat} (h : NoRef xs k l m o) (h1 : refB xs k l m o = false) : NoRef xs k l m (o+1) :=
  ⟨h.1, h.2.1, h.2.2.1, fun d hd => by
    by_cases e : d = o
    · rw [e, refF, h1]; rfl
    · exact h.2.2.2 d (by omega)⟩
theorem NoRef.c {xs : List Int} {k l m : Nat} (h : NoRef xs k l m xs.length) : NoRef xs k l (m+1) 0 :=
  ⟨h.1, h.2.1, fun c hc => by
    by_cases e : c = m
    · rw [e]; exact find1_none h.2.2.2
    · exact h.2.2.1 c (by omega), fun d hd => by omega⟩
theorem NoRef.b {xs : List Int} {k l : Nat} (h : NoRef xs k l xs.length 0) : NoRef xs k (l+1) 0 0 :=
  ⟨h.1, fun b hb => by
    by_cases e : b = l
    · rw [e, pairF_ref]; exact find1_none h.2.2.1
    · exact h.2.1 b (by omega), fun c hc => by omega, fun d hd => by omega⟩
theorem NoRef.a {xs : List Int} {k : Nat} (h : NoRef xs k xs.length 0 0) : NoRef xs (k+1) 0 0 0 :=
  ⟨fun a ha => by
    by_cases e : a = k
    · rw [e]; exact find1_none h.2.1
    · exact h.1 a (by omega), fun b hb => by omega, fun c hc => by omega, fun d hd => by omega⟩
theorem NoRef.no {xs : List Int} {l m o : Nat} (h : NoRef xs xs.length l m o) : twoF xs = none := find1_none h.1
theorem NoRef.yes {xs : List Int} {k l m o : Nat} (h : NoRef xs k l m o) (hk : k < xs.length) (hl : l < xs.length) (hm : m < xs.length) (ho : o < xs.length) (h1 : refB xs k l m o = true) :
    twoF xs = some [(k : Int), (l : Int), (m : Int), (o : Int)] :=
  find1_some hk (find1_some hl (by rw [pairF_ref]; exact find1_some hm (find1_some ho (by rw [refF, h1]; rfl) h.2.2.2) h.2.2.1) h.2.1) h.1
theorem ivTwoTwo_any (n : Int) (a : Option Addr) (xs : List Int) (cap : Nat) (w : World) (hx : Rd w a xs) (hp : RelP n xs) :
    Calls Try.prog 86 #[.agg #[.int .i64 n, .slice a xs.length cap]] w fun e w' => ∃ a' cap', e = .returned (.tuple #[.slice a' ((twoF xs).getD []).length cap', .bool (twoF xs).isSome]) ∧ OwnI w' w.heap.size (.slice a' ((twoF xs).getD []).length cap') ((twoF xs).getD []) ∧ Below w.heap.size w w' := by
  have hl10 : xs.length ≤ 10 := by have := hp.len; have := hp.n1; omega
  obtain rfl : n = (xs.length : Int) := hp.len.symm
  go_enter Try.func86, Try.ntmps86
  go_wp2_with fail
  go_loopw [4] (fun i' wr => ∃ k : Nat, k ≤ xs.length ∧ i' = .int .i64 k ∧ NoRef xs k 0 0 0 ∧ Below w.heap.size w wr ∧ Box2 wr w.heap.size (.int .i64 (xs.length : Int)) (.slice a xs.length cap)) (fun i' _ => xs.length - (intOf i').toNat)
  case atStart => exact ⟨0, Nat.zero_le _, rfl, ⟨fun c hc => by omega, fun b hb => by omega, fun b hb => by omega, fun b hb => by omega⟩, (by repeat (first | exact Below.refl _ _ | assumption | refine Below.alloc ?_ (by first | exact Nat.le_refl _ | (simp only [World.size_alloc, World.size_setCell, World.size_drew]; omega) | omega) _ | refine Below.setCell ?_ (by first | exact Nat.le_refl _ | (simp only [World.size_alloc, World.size_setCell, World.size_drew]; omega) | omega) _ | refine Below.drew ?_)), Box2.new w _ _ _⟩
  case round =>
    obtain ⟨k, hk, rfl, hall, hb, hB⟩ := hrel
    obtain ⟨wo, rfl⟩ : ∃ wo : World, wo = wr := ⟨_, rfl⟩
    have ⟨zr, cr, dr⟩ := hB
    have HA := Lib.hid hall
    clear hall
    by_cases hlt : k < xs.length
    · have k1 : (k : Int) < (xs.length : Int) := by omega
      go_wp2_with fail
      clear cr dr
      go_loopw [5] (fun i' wr => ∃ l : Nat, l ≤ xs.length ∧ i' = .int .i64 l ∧ NoRef xs k l 0 0 ∧ Below w.heap.size w wr ∧ Box2 wr w.heap.size (.int .i64 (xs.length : Int)) (.slice a xs.length cap)) (fun i' _ => xs.length - (intOf i').toNat)
      case atStart => exact ⟨0, Nat.zero_le _, rfl, HA.out, hb, hB⟩
      case round =>
        clear hb hB
        obtain ⟨l, hl, rfl, hall, hb, hB⟩ := hrel
        obtain ⟨wp, rfl⟩ : ∃ wp : World, wp = wr := ⟨_, rfl⟩
        have ⟨zr, cr, dr⟩ := hB
        have HL := Lib.hid hall
        clear hall
        by_cases hlt2 : l < xs.length
        · have l1 : (l : Int) < (xs.length : Int) := by omega
          go_wp2_with fail
          clear cr dr
          go_loopw [6] (fun i' wr => ∃ m : Nat, m ≤ xs.length ∧ i' = .int .i64 m ∧ NoRef xs k l m 0 ∧ Below w.heap.size w wr ∧ Box2 wr w.heap.size (.int .i64 (xs.length : Int)) (.slice a xs.length cap)) (fun i' _ => xs.length - (intOf i').toNat)
          case atStart => exact ⟨0, Nat.zero_le _, rfl, HL.out, hb, hB⟩
          case round =>
            clear hb hB
            obtain ⟨m, hm, rfl, hall, hb, hB⟩ := hrel
            obtain ⟨wq, rfl⟩ : ∃ wq : World, wq = wr := ⟨_, rfl⟩
            have ⟨zr, cr, dr⟩ := hB
            have HM := Lib.hid hall
            clear hall
            by_cases hlt3 : m < xs.length
            · have m1 : (m : Int) < (xs.length : Int) := by omega
              go_wp2_with fail
              clear cr dr
              go_loopw [7] (fun i' wr => ∃ o : Nat, o ≤ xs.length ∧ i' = .int .i64 o ∧ NoRef xs k l m o ∧ Below w.heap.size w wr ∧ Box2 wr w.heap.size (.int .i64 (xs.length : Int)) (.slice a xs.length cap)) (fun i' _ => xs.length - (intOf i').toNat)
              case atStart => exact ⟨0, Nat.zero_le _, rfl, HM.out, hb, hB⟩
              case round =>
                clear hb hB
                obtain ⟨o, ho, rfl, hall, hb, hB⟩ := hrel
                have ⟨zr, cr, dr⟩ := hB
                have HO := Lib.hid hall
                clear hall
                by_cases hlt4 : o < xs.length
                · have o1 : (o : Int) < (xs.length : Int) := by omega
                  cases hs : refB xs k l m o
                  · have hfin := Lib.hid (HO.out.d hs)
                    have HS := Lib.hid hs
                    clear hs
                    go_wp2_with fail
                    refine (ivRefuses_any _ _ _ _ _ _ _ _ _ (hx.below hb) hp hlt hlt3).mono ?_
                    rw [HS.out]
                    rintro e w3 ⟨rfl, hb3⟩
                    have B3 := hB.below hb3
                    have bw3 := hb.trans (hb3.mono hb.size)
                    go_wp2_with fail
                    go_roundw
                    case rel => exact ⟨o + 1, by omega, by go_num, hfin.out, bw3, B3⟩
                    case measure => simp [intOf]; omega
                  · have ht := HO.out.yes hlt hlt2 hlt3 hlt4 hs
                    have HT := Lib.hid ht
                    have HS := Lib.hid hs
                    clear hs ht
                    go_wp2_with fail
                    refine (ivRefuses_any _ _ _ _ _ _ _ _ _ (hx.below hb) hp hlt hlt3).mono ?_
                    rw [HS.out]
                    rintro e w3 ⟨rfl, hb3⟩
                    have bw3 := hb.trans (hb3.mono hb.size)
                    go_wp2_with fail
                    refine bodyPost_ret (v := .tuple #[.slice (some ⟨w3.heap.size, 0, none⟩) 4 4, .bool true]) (by simp [results, Try.results86, go_sem]) rfl ?_
                    refine ⟨some ⟨w3.heap.size, 0, none⟩, 4, by rw [HT.out]; rfl, ?_, bw3.alloc bw3.size _⟩
                    rw [HT.out]
                    exact (OwnI.new w3 [(k : Int), (l : Int), (m : Int), (o : Int)] (by simp)).mono bw3.size
                · obtain rfl : o = xs.length := by omega
                  have hfin := Lib.hid HO.out.c
                  go_wp2_with fail
                  go_roundw
                  case rel => exact ⟨m + 1, by omega, by go_num, hfin.out, hb, hB⟩
                  case measure => simp [intOf]; omega
            · obtain rfl : m = xs.length := by omega
              have hfin := Lib.hid HM.out.b
              go_wp2_with fail
              go_roundw
              case rel => exact ⟨l + 1, by omega, by go_num, hfin.out, hb, hB⟩
              case measure => simp [intOf]; omega
        · obtain rfl : l = xs.length := by omega
          have hfin := Lib.hid HL.out.a
          go_wp2_with fail
          go_roundw
          case rel => exact ⟨k + 1, by omega, by go_num, hfin.out, hb, hB⟩
          case measure => simp [intOf]; omega
    · obtain rfl : k = xs.length := by omega
      have ht := HA.out.no
      have HT := Lib.hid ht
      clear ht
      go_wp2_with fail
      refine bodyPost_ret (v := .tuple #[.slice none 0 0, .bool false]) (by simp [results, Try.results86, go_sem]) rfl ?_
      exact ⟨none, 0, by rw [HT.out]; rfl, by rw [HT.out]; exact OwnI.nil _ _, hb⟩

theorem ivIs_any (n : Int) (a : Option Addr) (xs : List Int) (cap : Nat) (w : World) (hx : Rd w a xs) (hp : RelP n xs) :
    Calls Try.prog 119 #[.agg #[.int .i64 n, .slice a xs.length cap]] w fun e w' => e = .returned (.bool (!(twoF xs).isSome)) ∧ Below w.heap.size w w' := by
  have hx1 := hx.alloc (.cells #[.int .i64 n, .slice a xs.length cap] 26)
  go_enter Try.func119, Try.ntmps119
  go_wp2_with fail
  refine (ivTwoTwo_any _ _ _ _ _ hx1 hp).mono ?_
  rintro e w2 ⟨a2, cap2, rfl, ho2, hb2⟩
  clear ho2
  go_wp2_with fail
  go_ret
  exact ⟨ret_bool (by cases twoF xs <;> rfl), Below.trans (by repeat (first | exact Below.refl _ _ | assumption | refine Below.alloc ?_ (by first | exact Nat.le_refl _ | (simp only [World.size_alloc, World.size_setCell, World.size_drew]; omega) | omega) _ | refine Below.setCell ?_ (by first | exact Nat.le_refl _ | (simp only [World.size_alloc, World.size_setCell, World.size_drew]; omega) | omega) _ | refine Below.drew ?_)) (hb2.mono (by first | (simp only [World.size_alloc, World.size_setCell, World.size_drew]; omega) | omega))⟩

theorem orList_any (s : Int) (w : World) (h0 : 0 ≤ s) (h1 : s < 1024) :
    Calls Try.prog 71 #[.int .i64 s] w fun e w' => ∃ a cap, e = .returned (.slice a (elems s.toNat).length cap) ∧ OwnI w' w.heap.size (.slice a (elems s.toNat).length cap) (elems s.toNat) ∧ Below w.heap.size w w' := by
  obtain ⟨S, rfl⟩ := Int.eq_ofNat_of_zero_le h0
  have hS : S < 1024 := by omega
  obtain ⟨i0, hi, hz0, hz1, hz2⟩ := info_parts infoInt
  have hsh : ∀ k : Nat, (S : Int) / 2 ^ min k 64 = ((S >>> k : Nat) : Int) := fun k => shr_nat S k (by omega)
  have HSH := Lib.hid hsh
  clear hsh
  go_enter Try.func71, Try.ntmps71
  go_wp2_with fail
  go_loopw [3, 4] (fun v i wr => ∃ k : Nat, k ≤ 10 ∧ i = .int .i64 k ∧ wr.ownsRow w.heap.size 3 1 v (elemsTo S k).length ((elemsTo S k).map (Value.int .i64)) ∧ Below w.heap.size w wr) (fun _ i _ => 10 - (intOf i).toNat)
  case atStart => exact ⟨0, by omega, rfl, by simpa [elemsTo] using World.ownsRow_nil _ _ _ _, Below.refl _ _⟩
  case round =>
    obtain ⟨k, hk, rfl, hown, hb⟩ := hrel
    have hln := elemsTo_len S k
    have hsz := hb.size
    have hq := HSH.out k
    rw [show min k 64 = k from by omega] at hq
    by_cases hz : S >>> k = 0
    · have ht : ¬ (0 : Int) < (S : Int) / 2 ^ k := by rw [hq, hz]; omega
      have HZ := Lib.hid hz
      clear hq hz
      go_wp2_with fail
      go_ret
      have e := elems_at HZ.out hk
      rw [e] at hown
      obtain ⟨a, cap, rfl⟩ := OwnI.form hown
      exact ⟨a, cap, rfl, hown, hb⟩
    · have ht : (0 : Int) < (S : Int) / 2 ^ k := by rw [hq]; exact Int.natCast_pos.2 (Nat.pos_of_ne_zero hz)
      have hk9 : k < 10 := by
        rcases Nat.lt_or_ge k 10 with h | h
        · exact h
        · obtain rfl : k = 10 := by omega
          exact absurd (by rw [Nat.shiftRight_eq_div_pow]; exact Nat.div_eq_of_lt (by omega)) hz
      clear hq hz
      have hhas : hasB (S : Int) (k : Int) = S.testBit k := rfl
      cases hin : S.testBit k
      · rw [hin] at hhas
        go_wp2_with (go_at_call 69; refine (orHas_any _ _ _ (by omega) (by omega) (by omega)).mono ?_; rintro e w' ⟨rfl, rfl⟩)
        go_roundw
        case rel => exact ⟨k + 1, by omega, by go_num, by simpa [elemsTo, hin] using hown, hb⟩
        case measure => simp [intOf]; omega
      · rw [hin] at hhas
        go_wp2_with (first | (go_at_call 69; refine (orHas_any _ _ _ (by omega) (by omega) (by omega)).mono ?_; rintro e w' ⟨rfl, rfl⟩) | (at_builtin; refine wpList_append_own _ rfl _ _ 24 rfl w.heap.size 3 i0 (.int .i64 0) 1 8 Try.underlying24 hi hz0 hz1 hz2 rfl (by decide) _ _ _ rfl (hown.alloc _) ⟨wr.heap.size, 0, none⟩ 1 1 [.int .i64 k] rfl rfl ?c1 ?c2 ?c3 ?c4 ?c5 ?_))
        case c1 =>
          intro j u hj
          match j, hj with
          | 0, hj => simp at hj; subst hj; simp [Addr.add]
        case c2 => intro u hu; simp at hu; subst hu; rfl
        case c3 => unfold maxLen; omega
        case c4 => omega
        case c5 => simp; omega
        · intro v' w1 hown' hgrow _
          have hlt := World.ownsRow.lt hown
          have hb1 : Below w.heap.size w w1 := (hb.alloc hsz _).grown hgrow (by simp; omega) (fun b e => (hlt b e).1)
          have HO := Lib.hid hown'
          clear hown' hgrow hown
          go_wp2_with fail
          go_roundw
          case rel => exact ⟨k + 1, by omega, by go_num, by simpa [elemsTo, hin] using HO.out, hb1⟩
          case measure => simp [intOf]; omega

theorem elem_at {n : Int} {xs : List Int} (hp : RelP n xs) {k : Nat} (hk : k < xs.length) {m : Nat} (hm : m < (elems (nth xs k).toNat).length) :
    ∃ i : Nat, i < xs.length ∧ hasB (nth xs k) i = true ∧ nth (elems (nth xs k).toNat) m = (i : Int) := by
  have h1 := hp.small k hk
  have h0 := hp.pos k hk
  obtain ⟨i, hb, e⟩ := (mem_elems (by omega)).1 (nth_mem hm)
  exact ⟨i, has_lt hp hk hb, hb, e⟩
theorem at_elem {n : Int} {xs : List Int} (hp : RelP n xs) {k : Nat} (hk : k < xs.length) {j : Nat} (h : hasB (nth xs k) j = true) :
    ∃ m, m < (elems (nth xs k).toNat).length ∧ nth (elems (nth xs k).toNat) m = (j : Int) := by
  have h1 := hp.small k hk
  have h0 := hp.pos k hk
  have : (j : Int) ∈ elems (nth xs k).toNat := (mem_elems (by omega)).2 ⟨j, h, rfl⟩
  obtain ⟨m, hm, e⟩ := mem_nth this
  exact ⟨m, hm, e⟩
theorem orGood_any (n : Int) (a : Option Addr) (xs : List Int) (cap : Nat) (w : World) (hx : Rd w a xs) :
    Calls Try.prog 70 #[.agg #[.int .i64 n, .slice a xs.length cap]] w fun e w' => e = .returned (.bool (ordB n xs)) ∧ Below w.heap.size w w' := by
  have hx1 := hx.alloc (.cells #[.int .i64 n, .slice a xs.length cap] 26)
  have hlen := hx.len
  cases hr : relB n xs
  · have HR : Hid (ordB n xs = false) := by simp [Hid, ordB, hr]
    go_enter Try.func70, Try.ntmps70
    go_wp2_with fail
    refine (orRelation_any _ _ _ _ _ hx1).mono ?_
    rintro e w1 ⟨rfl, hb1⟩
    go_wp2_with fail
    go_ret
    exact ⟨ret_bool HR.out.symm, Below.trans (by repeat (first | exact Below.refl _ _ | assumption | refine Below.alloc ?_ (by first | exact Nat.le_refl _ | (simp only [World.size_alloc, World.size_setCell, World.size_drew]; omega) | omega) _ | refine Below.setCell ?_ (by first | exact Nat.le_refl _ | (simp only [World.size_alloc, World.size_setCell, World.size_drew]; omega) | omega) _ | refine Below.drew ?_)) (hb1.mono (by first | (simp only [World.size_alloc, World.size_setCell, World.size_drew]; omega) | omega))⟩
  · have hp := relB_p hr
    go_enter Try.func70, Try.ntmps70
    go_wp2_with fail
    refine (orRelation_any _ _ _ _ _ hx1).mono ?_
    rintro e w1 ⟨rfl, hb1⟩
    have B1 := (Box2.new w _ _ _).below hb1
    have ⟨z1, c1, d1⟩ := B1
    have bw1 : Below w.heap.size w w1 := Below.trans (by repeat (first | exact Below.refl _ _ | assumption | refine Below.alloc ?_ (by first | exact Nat.le_refl _ | (simp only [World.size_alloc, World.size_setCell, World.size_drew]; omega) | omega) _ | refine Below.setCell ?_ (by first | exact Nat.le_refl _ | (simp only [World.size_alloc, World.size_setCell, World.size_drew]; omega) | omega) _ | refine Below.drew ?_)) (hb1.mono (by first | (simp only [World.size_alloc, World.size_setCell, World.size_drew]; omega) | omega))
    have HR := Lib.hid hr
    clear hb1
    go_wp2_with fail
    clear hr
    go_loopw [13] (fun i wr => ∃ k : Nat, k ≤ xs.length ∧ i = .int .i64 k ∧ (∀ j, j < k → okAtB xs j = true) ∧ Below w1.heap.size w1 wr) (fun i _ => xs.length - (intOf i).toNat)
    case atStart => exact ⟨0, Nat.zero_le _, rfl, fun j hj => by omega, Below.refl _ _⟩
    case round =>
      obtain ⟨k, hk, rfl, hall, hb⟩ := hrel
      have Br := B1.below hb
      have ⟨zr, cr, dr⟩ := Br
      have bwr := bw1.trans (hb.mono bw1.size)
      have HA := Lib.hid hall
      clear hall c1 d1
      by_cases hlt : k < xs.length
      · obtain ⟨b, off, rfl, hbl, hc⟩ := (hx.below bwr).cell k hlt
        have hpk := hp.pos k hlt
        have hsk := hp.small k hlt
        have hsk' : nth xs k ≤ 9223372036854775807 := by omega
        cases hin : hasB (nth xs k) k
        · go_wp2_with fail
          refine (orHas_any _ _ _ hpk hsk' (by omega)).mono ?_
          rintro e w' ⟨rfl, rfl⟩
          go_wp2_with fail
          refine (orList_any _ _ hpk hsk).mono ?_
          rintro e w2 ⟨a2, cap2, rfl, ho2, hb2⟩
          have ⟨z2, c2, d2⟩ := Br.below hb2
          have bw2 := bwr.trans (hb2.mono bwr.size)
          have hx2 := hx.below bw2
          have hr2 := ho2.rd
          have bk2 := hb.trans (hb2.mono hb.size)
          have hel := elems_len (nth xs k).toNat
          have HI := Lib.hid hin
          clear hin cr dr hc
          obtain ⟨es, hes⟩ : ∃ es, es = elems (nth xs k).toNat := ⟨_, rfl⟩
          rw [← hes] at ho2 hr2 hel
          have HES := Lib.hid hes
          rw [← hes]
          clear hes ho2 hb2
          go_wp2_with fail
          go_loop [24] (fun i => ∃ j : Nat, j ≤ es.length ∧ i = .int .i64 j ∧ (∀ m, m < j → sub (nth xs (nth es m).toNat).toNat (nth xs k).toNat = 0)) (fun i => es.length - (intOf i).toNat)
          case atStart => exact ⟨0, Nat.zero_le _, rfl, fun m hm => by omega⟩
          case round =>
            obtain ⟨j, hj, rfl, hin2⟩ := hrel
            have HIN := Lib.hid hin2
            clear hin2
            by_cases hjl : j < es.length
            · obtain ⟨b2, off2, rfl, hbl2, hc2⟩ := hr2.cell j hjl
              obtain ⟨i, hil, hib, hie⟩ : ∃ i : Nat, i < xs.length ∧ hasB (nth xs k) i = true ∧ nth es j = (i : Int) := by
                have := elem_at hp hlt (m := j) (by rw [← HES.out]; exact hjl)
                rw [← HES.out] at this
                exact this
              obtain ⟨b3, off3, e3, hbl3, hc3⟩ := hx2.cell i hil
              simp only [Option.some.injEq, Addr.mk.injEq, and_true] at e3
              obtain ⟨rfl, rfl⟩ := e3
              have hpi := hp.pos i hil
              have hsi := hp.small i hil
              have hsub := sub_i (a := nth xs i) (b := nth xs k) hpi (by omega) hpk (by omega)
              have HB := Lib.hid hib
              have HE := Lib.hid hie
              rw [hie] at hc2
              clear hib hie
              by_cases hz : sub (nth xs i).toNat (nth xs k).toNat = 0
              · have hne : (bits BinOp.andNot IntKind.i64 (nth xs i) (nth xs k) != 0) = false := by rw [hsub, hz]; rfl
                have HZ := Lib.hid hz
                clear hz hsub
                go_wp2_with fail
                go_round
                case rel =>
                  refine ⟨j + 1, by omega, by go_num, fun m hm => ?_⟩
                  by_cases e : m = j
                  · rw [e, HE.out, Int.toNat_natCast]; exact HZ.out
                  · exact HIN.out m (by omega)
                case measure => simp [intOf]; omega
              · have hne : (bits BinOp.andNot IntKind.i64 (nth xs i) (nth xs k) != 0) = true := by rw [hsub]; simp; omega
                have HN := Lib.hid (ordB_no (n := n) hlt (okAtB_sub hil HB.out hz))
                clear hz hsub
                go_wp2_with fail
                go_ret
                exact ⟨ret_bool HN.out.symm, bw2⟩
            · obtain rfl : j = es.length := by omega
              have hok : okAtB xs k = true := by
                rw [okAtB_iff]
                refine ⟨HI.out, fun j hj hbj => ?_⟩
                obtain ⟨m, hm, e⟩ := at_elem hp hlt hbj
                rw [← HES.out] at hm e
                have := HIN.out m hm
                rwa [e, Int.toNat_natCast] at this
              have HK := Lib.hid hok
              clear hok
              go_wp2_with fail
              go_roundw
              case rel =>
                refine ⟨k + 1, by omega, by go_num, fun j hj => ?_, bk2⟩
                by_cases e : j = k
                · rw [e]; exact HK.out
                · exact HA.out j (by omega)
              case measure => simp [intOf]; omega
        · have HN := Lib.hid (ordB_no (n := n) hlt (okAtB_has hin))
          go_wp2_with fail
          refine (orHas_any _ _ _ hpk hsk' (by omega)).mono ?_
          rintro e w' ⟨rfl, rfl⟩
          go_wp2_with fail
          go_ret
          exact ⟨ret_bool HN.out.symm, bwr⟩
      · obtain rfl : k = xs.length := by omega
        go_wp2_with fail
        go_ret
        exact ⟨ret_bool (ordB_iff.2 ⟨HR.out, HA.out⟩).symm, bwr⟩

theorem ivGoodOrder_any (n : Int) (a : Option Addr) (xs : List Int) (cap : Nat) (w : World) (hx : Rd w a xs) :
    Calls Try.prog 92 #[.agg #[.int .i64 n, .slice a xs.length cap]] w fun e w' => e = .returned (.bool (isIv n xs)) ∧ Below w.heap.size w w' := by
  have hx1 := hx.alloc (.cells #[.int .i64 n, .slice a xs.length cap] 26)
  cases hr : ordB n xs
  · have H1 : Hid (isIv n xs = false) := by simp [Hid, isIv, hr]
    go_enter Try.func92, Try.ntmps92
    go_wp2_with fail
    refine (orGood_any _ _ _ _ _ hx1).mono ?_
    rw [hr]
    rintro e w1 ⟨rfl, hb1⟩
    have bw1 : Below w.heap.size w w1 := Below.trans (by repeat (first | exact Below.refl _ _ | assumption | refine Below.alloc ?_ (by first | exact Nat.le_refl _ | (simp only [World.size_alloc, World.size_setCell, World.size_drew]; omega) | omega) _ | refine Below.setCell ?_ (by first | exact Nat.le_refl _ | (simp only [World.size_alloc, World.size_setCell, World.size_drew]; omega) | omega) _ | refine Below.drew ?_)) (hb1.mono (by first | (simp only [World.size_alloc, World.size_setCell, World.size_drew]; omega) | omega))
    go_wp2_with fail
    go_ret
    exact ⟨ret_bool H1.out.symm, bw1⟩
  · have hp := ord_rel hr
    have H1 : Hid (isIv n xs = !(twoF xs).isSome) := by simp [Hid, isIv, hr]
    go_enter Try.func92, Try.ntmps92
    go_wp2_with fail
    refine (orGood_any _ _ _ _ _ hx1).mono ?_
    rw [hr]
    rintro e w1 ⟨rfl, hb1⟩
    have A1 : Box2 w1 w.heap.size (.int .i64 n) (.slice a xs.length cap) := (Box2.new w _ _ _).below hb1
    have bw1 : Below w.heap.size w w1 := Below.trans (by repeat (first | exact Below.refl _ _ | assumption | refine Below.alloc ?_ (by first | exact Nat.le_refl _ | (simp only [World.size_alloc, World.size_setCell, World.size_drew]; omega) | omega) _ | refine Below.setCell ?_ (by first | exact Nat.le_refl _ | (simp only [World.size_alloc, World.size_setCell, World.size_drew]; omega) | omega) _ | refine Below.drew ?_)) (hb1.mono (by first | (simp only [World.size_alloc, World.size_setCell, World.size_drew]; omega) | omega))
    have ⟨zA, cA, dA⟩ := A1
    clear hb1 hr
    go_wp2_with fail
    refine (ivIs_any _ _ _ _ _ (hx.below bw1) hp).mono ?_
    rintro e w2 ⟨rfl, hb2⟩
    go_wp2_with fail
    go_ret
    exact ⟨ret_bool (by rw [H1.out]; cases twoF xs <;> rfl), bw1.trans (hb2.mono bw1.size)⟩

theorem alTo_in {cs : List Int} {t : Int} {j : Nat} {b : Bool} (h : inB t (lft cs j) (rgt cs j) = b) : alTo cs t (j+1) = if b then alTo cs t j ||| 2 ^ j else alTo cs t j := by
  subst h
  simp only [alTo]
  by_cases h : lft cs j ≤ t ∧ t ≤ rgt cs j
  · rw [if_pos h, if_pos (inB_iff.2 h)]
  · rw [if_neg h, if_neg (by rw [inB_iff]; exact h)]
set_option maxRecDepth 100000 in
theorem sAlong_any (n : Int) (a : Option Addr) (xs : List Int) (cap : Nat) (w : World) (hn : -9223372036854775808 ≤ n ∧ n ≤ 9223372036854775807) (hx : Rd w a xs) :
    Calls Try.prog 53 #[.agg #[.int .i64 n, .slice a xs.length cap]] w fun e w' => ∃ a' cap', e = .returned (.tuple #[.slice a' (alL n xs).length cap', .bool (isIv n xs)]) ∧ OwnI w' w.heap.size (.slice a' (alL n xs).length cap') (alL n xs) ∧ Below w.heap.size w w' := by
  have hx1 := hx.alloc (.cells #[.int .i64 n, .slice a xs.length cap] 26)
  obtain ⟨i0, hi, hz0, hz1, hz2⟩ := info_parts infoInt
  cases hr : isIv n xs
  · have H3 : Hid (alL n xs = []) := by simp [Hid, alL, hr]
    have HR := Lib.hid hr
    clear hr
    go_enter Try.func53, Try.ntmps53
    go_wp2_with fail
    refine (ivGoodOrder_any _ _ _ _ _ hx1).mono ?_
    rw [HR.out]
    rintro e w1 ⟨rfl, hb1⟩
    have bw1 : Below w.heap.size w w1 := Below.trans (by repeat (first | exact Below.refl _ _ | assumption | refine Below.alloc ?_ (by first | exact Nat.le_refl _ | (simp only [World.size_alloc, World.size_setCell, World.size_drew]; omega) | omega) _ | refine Below.setCell ?_ (by first | exact Nat.le_refl _ | (simp only [World.size_alloc, World.size_setCell, World.size_drew]; omega) | omega) _ | refine Below.drew ?_)) (hb1.mono (by first | (simp only [World.size_alloc, World.size_setCell, World.size_drew]; omega) | omega))
    go_wp2_with fail
    refine bodyPost_ret (v := .tuple #[.slice none 0 0, .bool false]) (by simp [results, Try.results53, go_sem]) rfl ?_
    exact ⟨none, 0, by rw [H3.out]; rfl, by rw [H3.out]; exact OwnI.nil _ _, bw1⟩
  · have ho := isIv_ord hr
    have hp := ord_rel ho
    have H3 : Hid (alL n xs = als xs (sets xs).length) := by simp [Hid, alL, hr]
    have hml := most_levels hp (isIv_two hr)
    have HR := Lib.hid hr
    have HO := Lib.hid ho
    have hl10 : xs.length ≤ 10 := by have := hp.len; have := hp.n1; omega
    have hsl := sets_len xs
    obtain ⟨M, hM⟩ : ∃ M, M = (sets xs).length := ⟨_, rfl⟩
    rw [← hM] at H3 hsl hml
    have HML := Lib.hid (show mostTo (levs xs xs.length) xs.length = (M : Int) - 1 by omega)
    have HM := Lib.hid hM
    clear hr ho hM hml
    go_enter Try.func53, Try.ntmps53
    go_wp2_with fail
    refine (ivGoodOrder_any _ _ _ _ _ hx1).mono ?_
    rw [HR.out]
    rintro e w1 ⟨rfl, hb1⟩
    have A1 : Box2 w1 w.heap.size (.int .i64 n) (.slice a xs.length cap) := (Box2.new w _ _ _).below hb1
    have bw1 : Below w.heap.size w w1 := Below.trans (by repeat (first | exact Below.refl _ _ | assumption | refine Below.alloc ?_ (by first | exact Nat.le_refl _ | (simp only [World.size_alloc, World.size_setCell, World.size_drew]; omega) | omega) _ | refine Below.setCell ?_ (by first | exact Nat.le_refl _ | (simp only [World.size_alloc, World.size_setCell, World.size_drew]; omega) | omega) _ | refine Below.drew ?_)) (hb1.mono (by first | (simp only [World.size_alloc, World.size_setCell, World.size_drew]; omega) | omega))
    clear hb1
    have hzA := A1.1
    go_wp2_with fail
    go_loopw [4, 5] (fun v i wr => ∃ k : Nat, k ≤ M ∧ i = .int .i64 k ∧ OwnI wr w1.heap.size v (als xs k) ∧ Below w1.heap.size w1 wr) (fun _ i _ => M - (intOf i).toNat)
    case atStart => exact ⟨0, Nat.zero_le _, rfl, OwnI.nil _ _, Below.refl _ _⟩
    case round =>
      obtain ⟨k, hk, rfl, hown, hb⟩ := hrel
      obtain ⟨av, cv, rfl⟩ := hown.form
      rw [als_len] at hown ⊢
      have hA := A1.below hb
      have ⟨zA, cA, dA⟩ := hA
      have bwr := bw1.trans (hb.mono bw1.size)
      by_cases hlt : k < M
      · have hle : (k : Int) ≤ (M : Int) - 1 := by omega
        go_wp2_with fail
        refine (ivLevels_any _ _ _ _ _ (hx.below bwr) hp).mono ?_
        rintro e w2 ⟨a2, cap2, rfl, ho2, hb2⟩
        have hm := ivMost_any a2 (levs xs xs.length) cap2 w2 ho2.rd
        rw [levs_len, HML.out] at hm
        have A2 := hA.below hb2
        have b2 := hb.trans (hb2.mono hb.size)
        have o2 := hown.below hb2 (Nat.le_refl _)
        have HMM := Lib.hid hm
        clear ho2 hb2 cA dA hown hm
        have ⟨zA2, cA2, dA2⟩ := A2
        go_wp2_with fail
        refine HMM.out.mono ?_
        rintro e w' ⟨rfl, rfl⟩
        clear HMM
        go_wp2_with fail
        refine (ivEnds_any _ _ _ _ _ (hx.below (bw1.trans (b2.mono bw1.size))) HO.out).mono ?_
        rintro e w3 ⟨a3, cap3, rfl, ho3, hb3⟩
        have b3 := b2.trans (hb3.mono b2.size)
        have o3 := o2.below hb3 (Nat.le_refl _)
        have hre : Rd w3 a3 (endp xs xs.length) := ho3.rd (by omega)
        clear ho3 hb3 o2 cA2 dA2
        go_wp2_with fail
        go_loopw [6, 22] (fun s i wr => ∃ j : Nat, j ≤ xs.length ∧ i = .int .i64 j ∧ s = .int .i64 (alTo (endp xs xs.length) (k : Int) j) ∧ Below w3.heap.size w3 wr) (fun _ i _ => xs.length - (intOf i).toNat)
        case atStart => exact ⟨0, Nat.zero_le _, rfl, rfl, Below.refl _ _⟩
        case round =>
          obtain ⟨j, hj, rfl, rfl, hbj⟩ := hrel
          have hzj := hbj.size
          by_cases hjl : j < xs.length
          · obtain ⟨b5, off5, rfl, hbl5, hc1, hc2⟩ := (hre.below hbj).pair (endp_len _ _) hjl
            have hbs := alTo_small (endp xs xs.length) (k : Int) (k := j) (by omega)
            have hor := Lib.hid (or_bit (b := alTo (endp xs xs.length) (k : Int) j) (k := j) (by omega) (by omega))
            clear hbs
            cases hin : inB (k : Int) (lft (endp xs xs.length) j) (rgt (endp xs xs.length) j)
            · have HS := Lib.hid (alTo_in hin)
              go_wp2_with (go_at_call 81; refine (l1In_any _ _ _ _).mono ?_; rintro e w' ⟨rfl, rfl⟩)
              go_roundw
              case rel => exact ⟨j + 1, by omega, by go_num, val_int (by rw [HS.out]; rfl), (by repeat (first | exact Below.refl _ _ | assumption | refine Below.alloc ?_ (by first | exact Nat.le_refl _ | (simp only [World.size_alloc, World.size_setCell, World.size_drew]; omega) | omega) _ | refine Below.setCell ?_ (by first | exact Nat.le_refl _ | (simp only [World.size_alloc, World.size_setCell, World.size_drew]; omega) | omega) _ | refine Below.drew ?_))⟩
              case measure => simp [intOf]; omega
            · have HS := Lib.hid (alTo_in hin)
              go_wp2_with (go_at_call 81; refine (l1In_any _ _ _ _).mono ?_; rintro e w' ⟨rfl, rfl⟩)
              go_roundw
              case rel => exact ⟨j + 1, by omega, by go_num, val_int (by rw [hor.out, HS.out]; rfl), (by repeat (first | exact Below.refl _ _ | assumption | refine Below.alloc ?_ (by first | exact Nat.le_refl _ | (simp only [World.size_alloc, World.size_setCell, World.size_drew]; omega) | omega) _ | refine Below.setCell ?_ (by first | exact Nat.le_refl _ | (simp only [World.size_alloc, World.size_setCell, World.size_drew]; omega) | omega) _ | refine Below.drew ?_))⟩
              case measure => simp [intOf]; omega
          · obtain rfl : j = xs.length := by omega
            have o4 := o3.below hbj (Nat.le_refl _)
            have b4 := b3.trans (hbj.mono b3.size)
            have hz4 := b4.size
            have HE : Hid (((alTo (endp xs xs.length) (k : Int) xs.length : Nat) : Int) = alE xs k) := rfl
            rw [HE.out]
            go_wp2_with (at_builtin; refine wpList_append_own _ rfl _ _ 24 rfl w1.heap.size 3 i0 (.int .i64 0) 1 8 Try.underlying24 hi hz0 hz1 hz2 rfl (by decide) (.slice av k cv) k ((als xs k).map (Value.int .i64)) rfl (by have h := o4.alloc (.cells #[.int .i64 (alE xs k)] 3); unfold OwnI at h; rw [als_len] at h; exact h) ⟨wr.heap.size, 0, none⟩ 1 1 [.int .i64 (alE xs k)] rfl rfl (cell_one_new _ _ _) (by intro u hu; simp at hu; subst hu; rfl) (by unfold maxLen; omega) (by omega) (by simp; omega) ?_)
            intro v' w6 hown6 hgrow _
            have hg2 := grown_alloc_set hgrow
            have o6 : OwnI w6 w1.heap.size v' (als xs (k + 1)) := by
              unfold OwnI
              rw [als_len, als, fmap_succ, List.map_append]
              exact hown6
            have hU := o4.lt
            have bw6 := b4.trans (below_of_grown hg2 (fun c e => by have := hU c e; omega) b4.size)
            clear hown6 hgrow hU
            go_wp2_with fail
            go_roundw
            case rel => exact ⟨k + 1, by omega, by go_num, o6, bw6⟩
            case measure => simp [intOf]; omega
      · obtain rfl : k = M := by omega
        have hle : ¬ (k : Int) ≤ (k : Int) - 1 := by omega
        go_wp2_with fail
        refine (ivLevels_any _ _ _ _ _ (hx.below bwr) hp).mono ?_
        rintro e w2 ⟨a2, cap2, rfl, ho2, hb2⟩
        have hm := ivMost_any a2 (levs xs xs.length) cap2 w2 ho2.rd
        rw [levs_len, HML.out] at hm
        have b2 := hb.trans (hb2.mono hb.size)
        have o2 := hown.below hb2 (Nat.le_refl _)
        have HMM := Lib.hid hm
        clear ho2 hb2 cA dA hown hm
        go_wp2_with fail
        refine HMM.out.mono ?_
        rintro e w' ⟨rfl, rfl⟩
        clear HMM
        go_wp2_with fail
        refine bodyPost_ret (v := .tuple #[.slice av k cv, .bool true]) (by simp [results, Try.results53, go_sem]) rfl ?_
        exact ⟨av, cv, by rw [H3.out, als_len], by rw [H3.out, als_len]; exact o2.mono bw1.size, bw1.trans (b2.mono bw1.size)⟩

theorem lit_own (w : World) (x : Int) (B : Nat) (hB : B ≤ w.heap.size) : (w.alloc (.cells #[.int .i64 x] 3)).ownsRow B 3 1 (.slice (some ⟨w.heap.size, 0, none⟩) 1 1) 1 [.int .i64 x] := by
  have h := (OwnI.new w [x] (by simp)).mono hB
  exact h

set_option maxRecDepth 100000 in
theorem longestList_any (fl : List Int) (hf : Flw fl) (cap : Nat) : ∀ (S : Nat) (a : Option Addr) (w : World), S < 1024 → Rd w a fl →
    Calls Try.prog 100 #[.int .i64 S, .slice a fl.length cap] w fun e w' => ∃ a' cap', e = .returned (.slice a' (lng fl S).length cap') ∧ OwnI w' w.heap.size (.slice a' (lng fl S).length cap') (lng fl S) ∧ Below w.heap.size w w' := by
  intro S
  induction S using Nat.strongRecOn with
  | _ S ih =>
    intro a w hS hx
    obtain ⟨i0, hi, hz0, hz1, hz2⟩ := info_parts infoInt
    have HIH := Lib.hid ih
    have HL := Lib.hid (lng_eq hf S)
    obtain ⟨rest, hrest⟩ : ∃ rest : Nat → List Int, rest = fun i => lng fl (S &&& (nth fl i).toNat) := ⟨_, rfl⟩
    have HR := Lib.hid hrest
    have hrl : ∀ i, (rest i).length ≤ 1024 := fun i => by
      rw [hrest]
      have := lng_len fl (S &&& (nth fl i).toNat)
      have h2 : S &&& (nth fl i).toNat ≤ S := Nat.and_le_left
      simp only; omega
    have hbl : ∀ k, (bestTo rest S k).length ≤ 1025 := fun k => bestTo_len k (fun i _ => hrl i)
    have HRL := Lib.hid hrl
    have HBL := Lib.hid hbl
    have hfl := hf.len
    have S0 : (0 : Int) ≤ (S : Int) := by omega
    have S1 : (S : Int) ≤ 9223372036854775807 := by omega
    clear ih hrest hrl hbl
    go_enter Try.func100, Try.ntmps100
    go_wp2_with fail
    go_loopw [5, 10] (fun v i wr => ∃ (k : Nat) (av : Option Addr) (cv : Nat), k ≤ fl.length ∧ i = .int .i64 k ∧ v = .slice av (bestTo rest S k).length cv ∧ OwnI wr w.heap.size (.slice av (bestTo rest S k).length cv) (bestTo rest S k) ∧ Below w.heap.size w wr) (fun _ i _ => fl.length - (intOf i).toNat)
    case atStart => exact ⟨0, none, 0, Nat.zero_le _, rfl, rfl, OwnI.nil _ _, Below.refl _ _⟩
    case round =>
      obtain ⟨k, av, cv, hk, rfl, rfl, hown, hb⟩ := hrel
      have hbk := HBL.out k
      by_cases hlt : k < fl.length
      · have k0 : (0 : Int) ≤ (k : Int) := by omega
        have k1 : (k : Int) < (fl.length : Int) := by omega
        cases hh : hasB (S : Int) (k : Int)
        · have HB : Hid (bestTo rest S (k+1) = bestTo rest S k) := by
            have : S.testBit k = false := hh
            simp [Hid, bestTo, this]
          go_wp2_with (go_at_call 60; refine (hasElement_any _ _ _ (by assumption) (by assumption) (by assumption)).mono ?_; rintro e w' ⟨rfl, rfl⟩)
          go_roundw
          case rel => exact ⟨k + 1, av, cv, by omega, by go_num, by rw [HB.out], by rw [HB.out]; exact hown, hb⟩
          case measure => simp [intOf]; omega
        · have hbit : S.testBit k = true := hh
          obtain ⟨b, off, rfl, hbl, hck⟩ := (hx.below hb).cell k hlt
          have ⟨f0, f1, f2⟩ := hf.ok k hlt
          have hand := and_i (a := (S : Int)) (b := nth fl k) (by omega) (by omega) f0 (by omega)
          rw [Int.toNat_natCast] at hand
          have hless := and_less hbit f2
          have hcall := HIH.out (S &&& (nth fl k).toNat) hless (some ⟨b, off, none⟩) wr (by omega) (hx.below hb)
          have hrk : lng fl (S &&& (nth fl k).toNat) = rest k := by rw [HR.out]
          rw [hrk] at hcall
          have HC := Lib.hid hcall
          have HA := Lib.hid hand
          have hbest : bestTo rest S (k+1) = if (bestTo rest S k).length ≤ (rest k).length then (k : Int) :: rest k else bestTo rest S k := by
            rw [bestTo, if_pos hbit]
          have HBT := Lib.hid hbest
          have hrk2 := HRL.out k
          clear hcall hand hless hrk hbest hbit
          go_wp2_with (go_at_call 60; refine (hasElement_any _ _ _ (by assumption) (by assumption) (by assumption)).mono ?_; rintro e w' ⟨rfl, rfl⟩)
          rw [HA.out]
          refine HC.out.mono ?_
          rintro e w2 ⟨a2, c2, rfl, ho2, hb2⟩
          have b2 := hb.trans (hb2.mono hb.size)
          have o2 := hown.below hb2 (Nat.le_refl _)
          clear hb2 hown HC
          by_cases hle : (bestTo rest S k).length ≤ (rest k).length
          · have hd : ((bestTo rest S k).length : Int) ≤ ((rest k).length : Int) := by omega
            have HB := Lib.hid (show bestTo rest S (k+1) = (k : Int) :: rest k by rw [HBT.out, if_pos hle])
            have hsz := b2.size
            have hlit := lit_own w2 (k : Int) w.heap.size hsz
            have HLIT := Lib.hid hlit
            clear hlit hle
            obtain ⟨R, hR⟩ : ∃ R, R = rest k := ⟨_, rfl⟩
            rw [← hR] at ho2 hd hrk2
            rw [← hR]
            have HRR := Lib.hid hR
            clear hR
            cases a2 with
            | none =>
              have hR0 : R = [] := by
                rcases ho2.2 with ⟨_, h0⟩ | ⟨g, c, cur, e, _⟩
                · exact List.length_eq_zero_iff.1 h0
                · cases e
              subst hR0
              have HO3 : Hid (OwnI (w2.alloc (.cells #[.int .i64 (k : Int)] 3)) w.heap.size (.slice (some ⟨w2.heap.size, 0, none⟩) 1 1) [(k : Int)]) := HLIT.out
              have hbe : bestTo rest S k = [] := List.length_eq_zero_iff.1 (by simp at hd; simpa using hd)
              rw [hbe]
              clear ho2 o2 hd hbe hbk
              go_wp2_with (at_builtin; refine wpList_append_none rfl _ _ 24 rfl w.heap.size 3 i0 1 Try.underlying24 hi (.slice (some ⟨w2.heap.size, 0, none⟩) 1 1) 1 c2 [.int .i64 (k : Int)] rfl HLIT.out rfl ?_)
              go_roundw
              case rel => exact ⟨k + 1, some ⟨w2.heap.size, 0, none⟩, 1, by omega, by go_num, by rw [HB.out, ← HRR.out]; rfl, by rw [HB.out, ← HRR.out]; exact HO3.out, b2.alloc hsz _⟩
              case measure => simp [intOf]; omega
            | some ad =>
              have hrd := ho2.rd
              go_wp2_with (at_builtin; refine wpList_append_own _ rfl _ _ 24 rfl w.heap.size 3 i0 (.int .i64 0) 1 8 Try.underlying24 hi hz0 hz1 hz2 rfl (by decide) (.slice (some ⟨w2.heap.size, 0, none⟩) 1 1) 1 [.int .i64 (k : Int)] rfl HLIT.out ad R.length c2 (R.map (Value.int .i64)) rfl (by rw [List.length_map, Nat.mul_one]) (rd_news (hrd.alloc _)) (ints_one _) (by unfold maxLen; omega) (by omega) (by simp; omega) ?_)
              intro v' w3 ho3 hg3 _
              have hb3 : Below w.heap.size w w3 := (b2.alloc hsz _).grown hg3 (by simp; omega) (fun b e => by simp [Value.ownBlock] at e; omega)
              have o3 : OwnI w3 w.heap.size v' ((k : Int) :: R) := by
                unfold OwnI
                rw [List.length_cons, List.map_cons, Nat.add_comm]
                exact ho3
              obtain ⟨a3, c3, rfl⟩ := o3.form
              have HO3 := Lib.hid o3
              clear ho3 hg3 o3 o2 ho2
              go_wp2_with fail
              go_roundw
              case rel => exact ⟨k + 1, a3, c3, by omega, by go_num, by rw [HB.out, HRR.out], by rw [HB.out, ← HRR.out]; exact HO3.out, hb3⟩
              case measure => simp [intOf]; omega
          · have hd : ¬ ((bestTo rest S k).length : Int) ≤ ((rest k).length : Int) := by omega
            have HB := Lib.hid (show bestTo rest S (k+1) = bestTo rest S k by rw [HBT.out, if_neg hle])
            clear hle ho2
            go_wp2_with fail
            go_roundw
            case rel => exact ⟨k + 1, av, cv, by omega, by go_num, by rw [HB.out], by rw [HB.out]; exact o2, b2⟩
            case measure => simp [intOf]; omega
      · obtain rfl : k = fl.length := by omega
        have HE : Hid (lng fl S = bestTo rest S fl.length) := by rw [Hid, HL.out, HR.out]
        go_wp2_with fail
        refine bodyPost_ret (v := .slice av (bestTo rest S fl.length).length cv) (by simp [results, Try.results100, go_sem]) rfl ?_
        exact ⟨av, cv, by rw [HE.out], by rw [HE.out]; exact hown, hb⟩

theorem indifferentSet_any (n : Int) (a : Option Addr) (xs : List Int) (cap : Nat) (k : Nat) (w : World) (hx : Rd w a xs) (hr : RelP n xs) (hk : k < xs.length) :
    Calls Try.prog 64 #[.agg #[.int .i64 n, .slice a xs.length cap], .int .i64 k] w fun e w' => e = .returned (.int .i64 (freeN xs k)) ∧ Below w.heap.size w w' := by
  have hx1 := hx.alloc (.cells #[.int .i64 n, .slice a xs.length cap] 26)
  have hn := hr.n1
  have h0 := hr.n0
  have hk0 : (0 : Int) ≤ (k : Int) := by omega
  have hk1 : (k : Int) < (xs.length : Int) := by omega
  have HF := Lib.hid (free_val2 hr hk)
  obtain ⟨b, off, rfl, hbl, hc⟩ := hx1.cell k hk
  obtain ⟨b', off', e', hbl', hc'⟩ := hx.cell k hk
  simp only [Option.some.injEq, Addr.mk.injEq, and_true] at e'
  obtain ⟨rfl, rfl⟩ := e'
  go_enter Try.func64, Try.ntmps64
  go_wp2_with fail
  go_region_held3 (fun w' => w'.cell? ⟨w.heap.size, 0, none⟩ = some (.int .i64 n) ∧ w'.cell? ⟨w.heap.size, 1, none⟩ = some (.slice (some ⟨b, off, none⟩) xs.length cap) ∧ w'.cell? ⟨b, off + k, none⟩ = some (.int .i64 (nth xs k)))
    (first | exact ⟨P1.2.1, P1.2.2, q1⟩ | go_keep)
    (first | (go_at_call 99; refine (fullSet_any _ _ h0 hn).mono ?_; rintro e w' ⟨rfl, rfl⟩) | (go_at_call 63; refine (belowSet_any _ _ _ _ _ _ (hx1.below (Joins.below_draws _ _ _)) hr (by omega)).mono ?_; rintro e w1 ⟨rfl, hb1⟩; have ht1 : Below (w.alloc (.cells #[.int .i64 n, .slice (some ⟨b, off, none⟩) xs.length cap] 26)).heap.size (w.alloc (.cells #[.int .i64 n, .slice (some ⟨b, off, none⟩) xs.length cap] 26)) w1 := (Joins.below_draws _ _ _).trans hb1; have P1 := (Box2.new w _ _ _).below ht1; have q1 := (ht1.cell (p := ⟨b, off + k, none⟩) hbl).trans hc))
  go_wp2_with fail
  go_ret
  exact ⟨ret_int (by rw [show min k 64 = k from by have := hr.len; omega, ← HF.out]; simp only [i64_wrap]), Below.trans (by repeat (first | exact Below.refl _ _ | assumption | refine Below.alloc ?_ (by first | exact Nat.le_refl _ | (simp only [World.size_alloc, World.size_setCell, World.size_drew]; omega) | omega) _ | refine Below.setCell ?_ (by first | exact Nat.le_refl _ | (simp only [World.size_alloc, World.size_setCell, World.size_drew]; omega) | omega) _ | refine Below.drew ?_)) (ht1.mono (by first | (simp only [World.size_alloc, World.size_setCell, World.size_drew]; omega) | omega))⟩

theorem lat_val {xs : List Int} (h : xs.length ≤ 10) {i : Nat} (hi : i < xs.length) : bits .andNot .i64 ((freeN xs i : Nat) : Int) (2 ^ i - 1) = latE xs i := by
  have h1 := freeN_lt h i
  have h2 : 2 ^ i ≤ 2 ^ 10 := Nat.pow_le_pow_right (by omega) (by omega)
  have h3 := Nat.two_pow_pos i
  rw [full_nat (by omega), sub_nat _ _ (by omega) (by omega)]
  rfl
set_option maxRecDepth 100000 in
theorem iAntichain_any (n : Int) (a : Option Addr) (xs : List Int) (cap : Nat) (w : World) (hn : -9223372036854775808 ≤ n ∧ n ≤ 9223372036854775807) (hx : Rd w a xs) :
    Calls Try.prog 54 #[.agg #[.int .i64 n, .slice a xs.length cap]] w fun e w' => ∃ a' cap', e = .returned (.tuple #[.slice a' (antL n xs).length cap', .bool (ordB n xs)]) ∧ OwnI w' w.heap.size (.slice a' (antL n xs).length cap') (antL n xs) ∧ Below w.heap.size w w' := by
  have hx1 := hx.alloc (.cells #[.int .i64 n, .slice a xs.length cap] 26)
  obtain ⟨i0, hi, hz0, hz1, hz2⟩ := info_parts infoInt
  cases hr : ordB n xs
  · have H2 : Hid (antL n xs = []) := by simp [Hid, antL, hr]
    go_enter Try.func54, Try.ntmps54
    go_wp2_with fail
    refine (iIsOrder_any _ _ _ _ _ hn hx1).mono ?_
    rw [hr]
    rintro e w1 ⟨rfl, hb1⟩
    have bw1 : Below w.heap.size w w1 := Below.trans (by repeat (first | exact Below.refl _ _ | assumption | refine Below.alloc ?_ (by first | exact Nat.le_refl _ | (simp only [World.size_alloc, World.size_setCell, World.size_drew]; omega) | omega) _ | refine Below.setCell ?_ (by first | exact Nat.le_refl _ | (simp only [World.size_alloc, World.size_setCell, World.size_drew]; omega) | omega) _ | refine Below.drew ?_)) (hb1.mono (by first | (simp only [World.size_alloc, World.size_setCell, World.size_drew]; omega) | omega))
    go_wp2_with fail
    refine bodyPost_ret (v := .tuple #[.slice none 0 0, .bool false]) (by simp [results, Try.results54, go_sem]) rfl ?_
    exact ⟨none, 0, by rw [H2.out]; rfl, by rw [H2.out]; exact OwnI.nil _ _, bw1⟩
  · have hp := ord_rel hr
    have hl10 : xs.length ≤ 10 := by have := hp.len; have := hp.n1; omega
    have H2 : Hid (antL n xs = lng (lats xs) (2 ^ xs.length - 1)) := by simp [Hid, antL, hr]
    have HR := Lib.hid hr
    obtain rfl : n = (xs.length : Int) := hp.len.symm
    have hp0 := hp.n0
    have hp1 := hp.n1
    have HFN := Lib.hid (full_nat hl10)
    have hlls : 2 ^ xs.length - 1 < 1024 := by
      have : 2 ^ xs.length ≤ 2 ^ 10 := Nat.pow_le_pow_right (by omega) hl10
      have := Nat.two_pow_pos xs.length
      omega
    have HLL := Lib.hid hlls
    clear hr hlls
    go_enter Try.func54, Try.ntmps54
    go_wp2_with fail
    refine (iIsOrder_any _ _ _ _ _ hn hx1).mono ?_
    rw [HR.out]
    rintro e w1 ⟨rfl, hb1⟩
    have A1 : Box2 w1 w.heap.size (.int .i64 (xs.length : Int)) (.slice a xs.length cap) := (Box2.new w _ _ _).below hb1
    have bw1 : Below w.heap.size w w1 := Below.trans (by repeat (first | exact Below.refl _ _ | assumption | refine Below.alloc ?_ (by first | exact Nat.le_refl _ | (simp only [World.size_alloc, World.size_setCell, World.size_drew]; omega) | omega) _ | refine Below.setCell ?_ (by first | exact Nat.le_refl _ | (simp only [World.size_alloc, World.size_setCell, World.size_drew]; omega) | omega) _ | refine Below.drew ?_)) (hb1.mono (by first | (simp only [World.size_alloc, World.size_setCell, World.size_drew]; omega) | omega))
    have ⟨zA, cA, dA⟩ := A1
    clear hb1
    go_wp2_with (at_make; refine wpList_make_full _ rfl (.tmp 10) (.tmp 10) 24 rfl w1.heap.size 3 i0 (.int .i64 0) 1 Try.underlying24 hi hz0 hz1 .i64 .i64 _ _ xs.length rfl rfl rfl rfl (by rw [hz2]; omega) (by unfold maxLen; omega) (Nat.le_refl _) ?_; intro w2 hown hgrow; have A2 := A1.kept hgrow (by simp))
    have hb2 : Below w1.heap.size w1 w2 := (Below.refl _ _).grown hgrow (Nat.le_refl _) (fun k h => by cases h)
    have hown0 := made_row (latE xs) hown
    clear hown hgrow cA dA A1
    go_wp2_with fail
    go_loopw [14] (fun i wr => ∃ k : Nat, k ≤ xs.length ∧ i = .int .i64 k ∧ OwnI wr w1.heap.size (.slice (some ⟨w1.heap.size, 0, none⟩) xs.length xs.length) (rowF (latE xs) xs.length k) ∧ Below w1.heap.size w1 wr ∧ Box2 wr w.heap.size (.int .i64 (xs.length : Int)) (.slice a xs.length cap)) (fun i _ => xs.length - (intOf i).toNat)
    case atStart => exact ⟨0, Nat.zero_le _, rfl, hown0, hb2, A2⟩
    case round =>
      obtain ⟨k, hk, rfl, hown, hb, hA⟩ := hrel
      have ⟨zB, cB, dB⟩ := hA
      have bwr := bw1.trans (hb.mono bw1.size)
      by_cases hlt : k < xs.length
      · have k0 : (0 : Int) ≤ (k : Int) := by omega
        have k1 : (k : Int) < (xs.length : Int) := by omega
        have k2 : (k : Int) ≤ 10 := by omega
        have HLV := Lib.hid (lat_val hl10 hlt)
        go_wp2_with fail
        refine (indifferentSet_any _ _ _ _ _ _ (hx.below bwr) hp hlt).mono ?_
        rintro e w4 ⟨rfl, hb4⟩
        have o4 := hown.below hb4 (Nat.le_refl _)
        have bw4 := hb.trans (hb4.mono hb.size)
        have A4 := hA.below hb4
        have hrl := rowF_len (latE xs) hk
        have ⟨ci, fi⟩ := o4.at' hrl.symm (i := k) (by omega)
        have hput := o4.put hrl.symm k (latE xs k)
        rw [rowF_set _ hlt] at hput
        have HP := Lib.hid hput.1
        have A5 := A4.kept hput.2 (by simp; omega)
        have bw5 := bw4.setCell (p := ⟨w1.heap.size, k, none⟩) (Nat.le_refl _) (.int .i64 (latE xs k))
        clear hput hrl hown o4 hb4 cB dB
        go_wp2_with fail
        refine (fullSet_any _ _ k0 k2).mono ?_
        rintro e w' ⟨rfl, rfl⟩
        rw [Int.toNat_natCast]
        go_wp2_with fail
        go_roundw
        case rel => rw [HLV.out]; exact ⟨k + 1, by omega, by go_num, HP.out, bw5, A5⟩
        case measure => simp [intOf]; omega
      · obtain rfl : k = xs.length := by omega
        rw [rowF_end] at hown
        have hrd : Rd wr (some ⟨w1.heap.size, 0, none⟩) (lats xs) := hown.rd
        have hll := lats_len xs
        clear hown
        go_wp2_with fail
        refine (fullSet_any _ _ hp0 hp1).mono ?_
        rintro e w' ⟨rfl, rfl⟩
        rw [Int.toNat_natCast, HFN.out]
        have hcall := longestList_any (lats xs) (lats_flw hl10) xs.length (2 ^ xs.length - 1) (some ⟨w1.heap.size, 0, none⟩) wr HLL.out hrd
        rw [hll] at hcall
        have HC := Lib.hid hcall
        clear hcall hll
        go_wp2_with fail
        refine HC.out.mono ?_
        rintro e w6 ⟨a6, c6, rfl, ho6, hb6⟩
        go_wp2_with fail
        refine bodyPost_ret (v := .tuple #[.slice a6 (lng (lats xs) (2 ^ xs.length - 1)).length c6, .bool true]) (by simp [results, Try.results54, go_sem]) rfl ?_
        exact ⟨a6, c6, by rw [H2.out], by rw [H2.out]; exact ho6.mono bwr.size, bwr.trans (hb6.mono bwr.size)⟩

theorem isElement_any (n : Int) (a : Option Addr) (len cap : Nat) (i : Int) (w : World) :
    Calls Try.prog 62 #[.agg #[.int .i64 n, .slice a len cap], .int .i64 i] w fun e w' => e = .returned (.bool (elemB i n)) ∧ Below w.heap.size w w' := by
  by_cases h0 : 0 ≤ i
  · by_cases h1 : i < n
    · have H := Lib.hid (elemB_iff.2 ⟨h0, h1⟩)
      go_enter Try.func62, Try.ntmps62
      go_wp2
      go_ret
      exact ⟨ret_bool (by rw [H.out]; try simp [h1]), (by repeat (first | exact Below.refl _ _ | assumption | refine Below.alloc ?_ (by first | exact Nat.le_refl _ | (simp only [World.size_alloc, World.size_setCell, World.size_drew]; omega) | omega) _ | refine Below.setCell ?_ (by first | exact Nat.le_refl _ | (simp only [World.size_alloc, World.size_setCell, World.size_drew]; omega) | omega) _ | refine Below.drew ?_))⟩
    · have H := Lib.hid (elemB_no.2 (.inr (show n ≤ i by omega)))
      go_enter Try.func62, Try.ntmps62
      go_wp2
      go_ret
      exact ⟨ret_bool (by rw [H.out]; try simp [h1]), (by repeat (first | exact Below.refl _ _ | assumption | refine Below.alloc ?_ (by first | exact Nat.le_refl _ | (simp only [World.size_alloc, World.size_setCell, World.size_drew]; omega) | omega) _ | refine Below.setCell ?_ (by first | exact Nat.le_refl _ | (simp only [World.size_alloc, World.size_setCell, World.size_drew]; omega) | omega) _ | refine Below.drew ?_))⟩
  · have H := Lib.hid (elemB_no (n := n).2 (.inl (show i < 0 by omega)))
    go_enter Try.func62, Try.ntmps62
    go_wp2
    go_ret
    exact ⟨ret_bool (by rw [H.out]), (by repeat (first | exact Below.refl _ _ | assumption | refine Below.alloc ?_ (by first | exact Nat.le_refl _ | (simp only [World.size_alloc, World.size_setCell, World.size_drew]; omega) | omega) _ | refine Below.setCell ?_ (by first | exact Nat.le_refl _ | (simp only [World.size_alloc, World.size_setCell, World.size_drew]; omega) | omega) _ | refine Below.drew ?_))⟩

theorem iIndifferentTo_any (n : Int) (a : Option Addr) (xs : List Int) (cap : Nat) (i : Int) (w : World) (hn : -9223372036854775808 ≤ n ∧ n ≤ 9223372036854775807) (hx : Rd w a xs) (hi : -9223372036854775808 ≤ i ∧ i ≤ 9223372036854775807) :
    Calls Try.prog 17 #[.agg #[.int .i64 n, .slice a xs.length cap], .int .i64 i] w fun e w' => e = .returned (.tuple #[.int .i64 (indF n xs i), .bool (okE n xs i)]) ∧ Below w.heap.size w w' := by
  have hx1 := hx.alloc (.cells #[.int .i64 n, .slice a xs.length cap] 26)
  cases hr : relB n xs
  · have HE : Hid (okE n xs i = false) := by simp [Hid, okE, hr]
    have H2 : Hid (indF n xs i = 0) := by simp [Hid, indF, HE.out]
    go_enter Try.func17, Try.ntmps17
    go_wp2_with fail
    refine (iIsRelation_any _ _ _ _ _ hn hx1).mono ?_
    rintro e w1 ⟨rfl, hb1⟩
    have bw1 : Below w.heap.size w w1 := Below.trans (by repeat (first | exact Below.refl _ _ | assumption | refine Below.alloc ?_ (by first | exact Nat.le_refl _ | (simp only [World.size_alloc, World.size_setCell, World.size_drew]; omega) | omega) _ | refine Below.setCell ?_ (by first | exact Nat.le_refl _ | (simp only [World.size_alloc, World.size_setCell, World.size_drew]; omega) | omega) _ | refine Below.drew ?_)) (hb1.mono (by first | (simp only [World.size_alloc, World.size_setCell, World.size_drew]; omega) | omega))
    go_wp2_with fail
    go_ret2
    exact ⟨ret_ib H2.out.symm HE.out.symm, bw1⟩
  · cases he : elemB i n
    · have HE : Hid (okE n xs i = false) := by simp [Hid, okE, he]
      have H2 : Hid (indF n xs i = 0) := by simp [Hid, indF, HE.out]
      go_enter Try.func17, Try.ntmps17
      go_wp2_with fail
      refine (iIsRelation_any _ _ _ _ _ hn hx1).mono ?_
      rintro e w1 ⟨rfl, hb1⟩
      have B1 := (Box2.new w _ _ _).below hb1
      have ⟨z1, c1, d1⟩ := B1
      have bw1 : Below w.heap.size w w1 := Below.trans (by repeat (first | exact Below.refl _ _ | assumption | refine Below.alloc ?_ (by first | exact Nat.le_refl _ | (simp only [World.size_alloc, World.size_setCell, World.size_drew]; omega) | omega) _ | refine Below.setCell ?_ (by first | exact Nat.le_refl _ | (simp only [World.size_alloc, World.size_setCell, World.size_drew]; omega) | omega) _ | refine Below.drew ?_)) (hb1.mono (by first | (simp only [World.size_alloc, World.size_setCell, World.size_drew]; omega) | omega))
      go_wp2_with fail
      refine (isElement_any _ _ _ _ _ _).mono ?_
      rintro e w2 ⟨rfl, hb2⟩
      go_wp2_with fail
      go_ret2
      exact ⟨ret_ib H2.out.symm HE.out.symm, bw1.trans (hb2.mono bw1.size)⟩
    · have hp := relB_p hr
      obtain ⟨k, rfl⟩ := Int.eq_ofNat_of_zero_le (elemB_iff.1 he).1
      have HE : Hid (okE n xs k = true) := by simp [Hid, okE, hr, he]
      have H2 : Hid (indF n xs k = (freeN xs k : Nat)) := by simp [Hid, indF, HE.out]
      have hk : k < xs.length := by have := hp.len; have := (elemB_iff.1 he).2; omega
      go_enter Try.func17, Try.ntmps17
      go_wp2_with fail
      refine (iIsRelation_any _ _ _ _ _ hn hx1).mono ?_
      rintro e w1 ⟨rfl, hb1⟩
      have B1 := (Box2.new w _ _ _).below hb1
      have ⟨z1, c1, d1⟩ := B1
      have bw1 : Below w.heap.size w w1 := Below.trans (by repeat (first | exact Below.refl _ _ | assumption | refine Below.alloc ?_ (by first | exact Nat.le_refl _ | (simp only [World.size_alloc, World.size_setCell, World.size_drew]; omega) | omega) _ | refine Below.setCell ?_ (by first | exact Nat.le_refl _ | (simp only [World.size_alloc, World.size_setCell, World.size_drew]; omega) | omega) _ | refine Below.drew ?_)) (hb1.mono (by first | (simp only [World.size_alloc, World.size_setCell, World.size_drew]; omega) | omega))
      go_wp2_with fail
      refine (isElement_any _ _ _ _ _ _).mono ?_
      rintro e w2 ⟨rfl, hb2⟩
      have ⟨z2, c2, d2⟩ := B1.below hb2
      have bw2 : Below w.heap.size w w2 := bw1.trans (hb2.mono bw1.size)
      go_wp2_with fail
      refine (indifferentSet_any _ _ _ _ _ _ (hx.below bw2) hp hk).mono ?_
      rintro e w3 ⟨rfl, hb3⟩
      go_wp2_with fail
      go_ret2
      exact ⟨ret_ib H2.out.symm HE.out.symm, bw2.trans (hb3.mono bw2.size)⟩

set_option maxRecDepth 100000 in
set_option maxHeartbeats 8000000 in
theorem walk (a0 : Option Addr) (n0 cap0 : Nat) (a1 : Option Addr) (n1 cap1 : Nat) (w : World) (hR0 : RdB w a0 n0) (hl0 : n0 ≤ 9223372036854775807) (hR1 : RdB w a1 n1) (hl1 : n1 ≤ 9223372036854775807) :
    Calls Try.prog 9 #[.slice a0 n0 cap0, .slice a1 n1 cap1] w fun e w' => e = .returned (.bool true) ∧ Below w.heap.size w w' := by
  go_enter Try.func9, Try.ntmps9
  go_wp2_with fail
  refine (big_any _ _ _ _ _ _ _ hl0 hl1).mono ?_
  rintro e w' ⟨he, rfl⟩
  rcases he with rfl | ⟨rfl, hb0, hb1⟩
  · go_wp2_with fail
    go_ret
    exact ⟨rfl, (by repeat (first | exact Below.refl _ _ | assumption | refine Below.alloc ?_ (by first | exact Nat.le_refl _ | (simp only [World.size_alloc, World.size_setCell, World.size_drew]; omega) | omega) _ | refine Below.setCell ?_ (by first | exact Nat.le_refl _ | (simp only [World.size_alloc, World.size_setCell, World.size_drew]; omega) | omega) _ | refine Below.drew ?_))⟩
  · go_wp2_with fail
    refine (drAlong_any _ _ _ _ hR0 hb0).mono ?_
    rintro e w1 ⟨n, a, cap, xs, rfl, ho, hl, hn0, hn1, hx, hb⟩
    have hnn : -9223372036854775808 ≤ n ∧ n ≤ 9223372036854775807 := by omega
    have HB := Lib.hid hb
    have HR := Lib.hid ho.rd
    clear hx ho hb hR0 hR1 hl0 hl1 hb0 hb1
    obtain ⟨S, hS⟩ : ∃ S, S = alL n xs := ⟨_, rfl⟩
    obtain ⟨I, hI⟩ : ∃ I, I = isIv n xs := ⟨_, rfl⟩
    have HIA := Lib.hid (fun W (h : Rd W a xs) => iAlong_any n a xs cap W hnn h)
    have HSA := Lib.hid (fun W (h : Rd W a xs) => sAlong_any n a xs cap W hnn h)
    rw [← hS, ← hI] at HIA HSA
    have HI := Lib.hid hI
    have HS := Lib.hid hS
    have HEQ : Hid (eqL S S = true) := by simp [Hid, eqL]
    have q1 : (I != I) = false := by simp
    clear hS hI
    have ba1 : Below w1.heap.size w1 (w1.alloc (.cells #[.int .i64 n, .slice a xs.length cap] 26)) := (Below.refl _ _).alloc (Nat.le_refl _) _
    have HA := Lib.hid (Box2.new w1 (.int .i64 n) (.slice a xs.length cap) 26)
    replace HB := Lib.hid (HB.out.trans (ba1.mono HB.out.size))
    replace HR := Lib.hid (HR.out.below ba1)
    obtain ⟨v1, hv1⟩ : ∃ x : World, x = w1.alloc (.cells #[.int .i64 n, .slice a xs.length cap] 26) := ⟨_, rfl⟩
    have HV1 := Lib.hid hv1
    rw [← hv1] at HA HB HR
    clear ba1 hv1
    have cA := HA.out.2
    go_wp2_with fail
    rw [← HV1.out]
    clear cA
    have ⟨zA, cA, dA⟩ := HA.out
    refine (HIA.out _ HR.out).mono ?_
    rintro e w3 ⟨a3, c3, rfl, ho3, hb3⟩
    try clear zA cA dA
    replace HB := Lib.hid (HB.out.trans (hb3.mono HB.out.size))
    replace HA := Lib.hid (HA.out.below hb3)
    replace HR := Lib.hid (HR.out.below hb3)
    have ⟨zA, cA, dA⟩ := HA.out
    clear hb3
    have HC := Lib.hid ho3.rd
    clear ho3
    go_wp2_with fail
    refine (HSA.out _ HR.out).mono ?_
    rintro e w4 ⟨a4, c4, rfl, ho4, hb4⟩
    try clear zA cA dA
    replace HB := Lib.hid (HB.out.trans (hb4.mono HB.out.size))
    replace HA := Lib.hid (HA.out.below hb4)
    replace HR := Lib.hid (HR.out.below hb4)
    replace HC := Lib.hid (HC.out.below hb4)
    have ⟨zA, cA, dA⟩ := HA.out
    clear hb4
    have HD := Lib.hid ho4.rd
    clear ho4 HIA HSA
    go_wp2_with fail
    refine ((pSame_any a3 a4 S S c3 c4 _ HC.out HD.out)).mono ?_
    rw [HEQ.out]
    rintro e w5 ⟨rfl, hb5⟩
    try clear zA cA dA
    replace HB := Lib.hid (HB.out.trans (hb5.mono HB.out.size))
    replace HA := Lib.hid (HA.out.below hb5)
    replace HR := Lib.hid (HR.out.below hb5)
    replace HC := Lib.hid (HC.out.below hb5)
    replace HD := Lib.hid (HD.out.below hb5)
    have ⟨zA, cA, dA⟩ := HA.out
    clear hb5
    clear HD
    cases hII : I
    · go_wp2_with fail
      go_ret
      exact ⟨rfl, HB.out⟩
    · have hiv : isIv n xs = true := by rw [← HI.out]; exact hII
      have hor := isIv_ord hiv
      have hr := (ordB_iff.1 hor).1
      have hp := relB_p hr
      obtain rfl : n = (xs.length : Int) := hp.len.symm
      have hx10 : xs.length ≤ 10 := hl
      obtain ⟨D, hD⟩ : ∃ D, D = (sets xs).length := ⟨_, rfl⟩
      have hDl : D ≤ 10 := by have := sets_len xs; omega
      have hSe : S = als xs D := by rw [HS.out, alL, if_pos hiv, hD]
      have hSl : S.length = D := by rw [hSe]; exact als_len _ _
      have hma := mostA_all hiv
      rw [← hD] at hma
      have HSN : Hid (∀ t, t < D → nth S t = alE xs t) := fun t ht => by rw [hSe]; exact fmap_nth _ ht
      have HE : Hid (∀ W, Rd W a xs → Calls Try.prog 43 #[.agg #[.int .i64 (xs.length : Int), .slice a xs.length cap]] W fun e w' => ∃ a'' c'', e = .returned (.tuple #[.slice a'' xs.length c'', .bool true]) ∧ OwnV w' W.heap.size (.slice a'' xs.length c'') xs.length (endp xs xs.length) ∧ Below W.heap.size W w') := fun W h => by
        have := iEnds_any (xs.length : Int) a xs cap W hnn h
        unfold GotV at this
        rw [endN, endL, hiv, if_pos rfl, if_pos rfl] at this
        exact this
      have HG : Hid (∀ W, Rd W a xs → Calls Try.prog 44 #[.agg #[.int .i64 (xs.length : Int), .slice a xs.length cap]] W fun e w' => e = .returned (.tuple #[.int .i64 (D : Int), .bool true]) ∧ Below W.heap.size W w') := fun W h => by
        have := iMagnitude_any (xs.length : Int) a xs cap W hnn h
        rw [magF, hiv, if_pos rfl, ← hD] at this
        exact this
      have HAN : Hid (∀ W, Rd W a xs → Calls Try.prog 54 #[.agg #[.int .i64 (xs.length : Int), .slice a xs.length cap]] W fun e w' => ∃ a' c', e = .returned (.tuple #[.slice a' (mostA xs D) c', .bool true]) ∧ Below W.heap.size W w') := fun W h => by
        have := iAntichain_any (xs.length : Int) a xs cap W hnn h
        rw [antL, hor, if_pos rfl, ← hma] at this
        refine this.mono ?_
        rintro e w' ⟨a', c', rfl, _, h2⟩
        exact ⟨a', c', rfl, h2⟩
      have HIN : Hid (∀ W (i : Nat), i < xs.length → Rd W a xs → Calls Try.prog 17 #[.agg #[.int .i64 (xs.length : Int), .slice a xs.length cap], .int .i64 (i : Int)] W fun e w' => e = .returned (.tuple #[.int .i64 ((freeN xs i : Nat) : Int), .bool true]) ∧ Below W.heap.size W w') := fun W i hi h => by
        have := iIndifferentTo_any (xs.length : Int) a xs cap (i : Int) W hnn h (by omega)
        have hok : okE (xs.length : Int) xs (i : Int) = true := by simp [okE, hr, elemB]; omega
        rw [indF, hok, if_pos rfl, Int.toNat_natCast] at this
        exact this
      have HAL := Lib.hid (fun (t : Nat) => al_small (xs := xs) hx10 t)
      have HFR := Lib.hid (fun (i : Nat) => free_small hx10 i)
      have HAB := Lib.hid (fun (t j : Nat) (hj : j < xs.length) => al_bit (xs := xs) (t := t) hj)
      have HIS := Lib.hid (fun (t i : Nat) (ht : t < D) (hi : i < xs.length) => al_inside hiv (t := t) (i := i) (by omega) hi)
      have HEL : Hid ((endp xs xs.length).length = xs.length * 2) := prs_len _ _ _
      have HPR : Hid (∀ k, k < xs.length → lft (endp xs xs.length) k = lv xs k ∧ rgt (endp xs xs.length) k = rtE xs k) := fun k hk => ⟨by rw [endp, prs_lft _ _ hk], by rw [endp, prs_rgt _ _ hk]⟩
      have HMS : Hid (∀ t, mostA xs (t+1) = if mostA xs t < card (alE xs t).toNat 10 then card (alE xs t).toNat 10 else mostA xs t) := fun t => rfl
      have HMB : Hid (∀ t, mostA xs t ≤ 10) := fun t => mostA_le (fun u => card_le _ 10) t
      generalize endp xs xs.length = cs at HE HEL HPR
      have HSL := Lib.hid hSl
      have hdd : ((D : Int) != (D : Int)) = false := by simp
      rw [hSl]
      clear hma hSl hSe hD hp hr hor hiv hII HS HI HEQ
      go_wp2_with fail
      refine (HE.out _ HR.out).mono ?_
      rintro e w6 ⟨a6, c6, rfl, ho6, hb6⟩
      try clear zA cA dA
      replace HB := Lib.hid (HB.out.trans (hb6.mono HB.out.size))
      replace HA := Lib.hid (HA.out.below hb6)
      replace HR := Lib.hid (HR.out.below hb6)
      replace HC := Lib.hid (HC.out.below hb6)
      have ⟨zA, cA, dA⟩ := HA.out
      clear hb6
      have HV := Lib.hid (ho6.rd (by omega))
      clear ho6
      go_wp2_with fail
      refine (HG.out _ HR.out).mono ?_
      rintro e w7 ⟨rfl, hb7⟩
      try clear zA cA dA
      replace HB := Lib.hid (HB.out.trans (hb7.mono HB.out.size))
      replace HA := Lib.hid (HA.out.below hb7)
      replace HR := Lib.hid (HR.out.below hb7)
      replace HC := Lib.hid (HC.out.below hb7)
      replace HV := Lib.hid (HV.out.below hb7)
      have ⟨zA, cA, dA⟩ := HA.out
      clear hb7
      go_wp2_with fail
      refine (HAN.out _ HR.out).mono ?_
      rintro e w8 ⟨a8, c8, rfl, hb8⟩
      try clear zA cA dA
      replace HB := Lib.hid (HB.out.trans (hb8.mono HB.out.size))
      replace HA := Lib.hid (HA.out.below hb8)
      replace HR := Lib.hid (HR.out.below hb8)
      replace HC := Lib.hid (HC.out.below hb8)
      replace HV := Lib.hid (HV.out.below hb8)
      have ⟨zA, cA, dA⟩ := HA.out
      clear hb8
      clear HE HG HAN
      go_wp2_with fail
      have HHA := Lib.hid HA.out
      go_loopw [16, 83] (fun m i wr => ∃ t : Nat, t ≤ D ∧ i = .int .i64 t ∧ m = .int .i64 ((mostA xs t : Nat) : Int) ∧ Below w8.heap.size w8 wr) (fun _ i _ => D - (intOf i).toNat)
      case atStart => exact ⟨0, Nat.zero_le _, rfl, rfl, Below.refl _ _⟩
      case round =>
        obtain ⟨t, ht, rfl, rfl, hb⟩ := hrel
        by_cases hlt : t < D
        · have k1 : (t : Int) < (D : Int) := by omega
          have HT9 := Lib.hid hb
          obtain ⟨b1, o1, rfl, hb1, hc1⟩ := (HC.out.below hb).cell t (by rw [HSL.out]; exact hlt)
          rw [HSN.out t hlt] at hc1
          obtain ⟨A, hA⟩ := Int.eq_ofNat_of_zero_le (HAL.out t).1
          have hA9 := (HAL.out t).2
          have hms := HMS.out t
          have hab := HAB.out t
          have his := HIS.out t
          rw [hA] at hc1 hA9 hms hab his
          rw [Int.toNat_natCast] at hms his
          have HMSt := Lib.hid hms
          have HABt := Lib.hid hab
          have HISt := Lib.hid his
          have hmb := HMB.out t
          obtain ⟨m, hm⟩ : ∃ m, m = mostA xs t := ⟨_, rfl⟩
          rw [← hm] at HMSt hmb ⊢
          have hcl := card_le A 10
          obtain ⟨c, hc⟩ : ∃ c, c = card A 10 := ⟨_, rfl⟩
          have HPM : Hid (∀ W, Calls Try.prog 55 #[.int .i64 (A : Int)] W fun e w' => e = .returned (.int .i64 (c : Int)) ∧ W = w') := fun W => by rw [hc]; exact pMany_any A W (by omega)
          rw [← hc] at HMSt hcl
          clear hb hms hab his hA hm hc
          by_cases hcm : m < c
          · have hcm2 : (m : Int) < (c : Int) := by omega
            have HMN : Hid (mostA xs (t+1) = c) := by rw [Hid, HMSt.out, if_pos hcm]
            clear HMSt hcm
            go_wp2_with fail
            refine (HPM.out _).mono ?_
            rintro e w' ⟨rfl, rfl⟩
            go_wp2_with fail
            refine (HPM.out _).mono ?_
            rintro e w' ⟨rfl, rfl⟩
            go_wp2_with fail
            clear hcm2
            go_loopw [96] (fun i wr => ∃ i' : Nat, i' ≤ xs.length ∧ i = .int .i64 i' ∧ Below w8.heap.size w8 wr) (fun i _ => xs.length - (intOf i).toNat)
            case atStart => exact ⟨0, Nat.zero_le _, rfl, HT9.out⟩
            case round =>
              obtain ⟨i, hi, rfl, hb⟩ := hrel
              by_cases hit : i < xs.length
              · have i1 : (i : Int) < (xs.length : Int) := by omega
                have HTi := Lib.hid hb
                obtain ⟨b2, o2, rfl, hb2, hc2, hc3⟩ := (HV.out.below hb).pair HEL.out hit
                rw [(HPR.out i hit).1] at hc2
                rw [(HPR.out i hit).2] at hc3
                have ⟨zA2, cA2, dA2⟩ := HHA.out.below hb
                have hab := HABt.out i hit
                have his := HISt.out i hlt hit
                rw [hab] at his
                obtain ⟨F, hF⟩ : ∃ F, F = freeN xs i := ⟨_, rfl⟩
                have hF9 := HFR.out i
                rw [← hF] at his hF9
                have h10 := pow_small (q := i) (by omega)
                have h2i : (2 : Nat) ^ i < 1024 := by
                  have := Nat.pow_lt_pow_right (show 1 < 2 by omega) (show i < 10 by omega)
                  have h3 : (2 : Nat) ^ 10 = 1024 := by decide
                  omega
                obtain ⟨Z, hZ⟩ : ∃ Z, Z = sub (sub A F) (2 ^ i) := ⟨_, rfl⟩
                have s1 : sub A F < 1024 := sub_lt (n := 10) (by omega)
                have hbits : bits .andNot .i64 (bits .andNot .i64 (A : Int) (F : Int)) (wrap64 (2 ^ i)) = (Z : Int) := by
                  rw [sub_nat A F (by omega) (by omega), show wrap64 ((2 : Int) ^ i) = ((2 ^ i : Nat) : Int) from (by have h := h10.1; rw [i64_wrap] at h; rw [h]; simp), sub_nat _ _ (by omega) (by omega), hZ]
                have hz0 : ((Z : Int) == 0) = (Z == 0) := nat_beq Z 0
                rw [← hZ] at his
                rw [his] at hz0
                have HIC := Lib.hid (fun W h => HIN.out W i hit h)
                rw [← hF] at HIC
                obtain ⟨l, hll⟩ : ∃ l, l = lv xs i := ⟨_, rfl⟩
                obtain ⟨r, hrr⟩ : ∃ r, r = rtE xs i := ⟨_, rfl⟩
                rw [← hll] at hc2 hab hz0
                rw [← hrr] at hc3 hab hz0
                have HPI : Hid (∀ W, Calls Try.prog 18 #[.int .i64 (A : Int), .int .i64 (i : Int)] W fun e w' => e = .returned (.bool (decide (l ≤ (t : Int)) && decide ((t : Int) ≤ r))) ∧ W = w') := fun W => by
                  have := pIn_any (A : Int) (i : Int) W (by omega) (by omega) (by omega)
                  rw [hab] at this
                  exact this
                have HRx := Lib.hid (HR.out.below hb)
                have HBT := Lib.hid hbits
                clear hbits hab his hZ hF hll hrr h10 h2i s1 hF9
                go_wp2_with fail
                have ba := (Below.refl wr.heap.size wr).alloc (Nat.le_refl _) (.cells #[.int .i64 l, .int .i64 r] 54)
                refine (HIC.out _ (HRx.out.alloc _)).mono ?_
                rintro e u1 ⟨rfl, hu1⟩
                have HX := Lib.hid ((Box2.new wr (.int .i64 l) (.int .i64 r) 54).below hu1)
                have HTu : Hid (Below w8.heap.size w8 u1) := (HTi.out.trans (ba.mono HTi.out.size)).trans (hu1.mono (by have := HTi.out.size; have := ba.size; omega))
                have ⟨zX, cX, dX⟩ := HX.out
                clear hu1 ba cA2 dA2 zA2
                cases h1 : decide (l ≤ (t : Int))
                · rw [h1] at HPI hz0
                  rw [Bool.false_and] at HPI hz0
                  have g1 : ¬ l ≤ (t : Int) := by simpa using h1
                  have HZ0 := Lib.hid hz0
                  clear hz0
                  go_wp2_with fail
                  go_quiet ((go_at_call 18; exact pIn_is HPI.out _ _))
                  go_wp2_with fail
                  rw [HBT.out, HZ0.out]
                  refine (HPI.out _).mono ?_
                  rintro e w' ⟨rfl, rfl⟩
                  go_wp2_with fail
                  go_roundw
                  case rel => exact ⟨i + 1, by omega, by go_num, HTu.out.trans (Joins.below_draws _ _ _)⟩
                  case measure => simp [intOf]; omega
                · cases h2 : decide ((t : Int) ≤ r)
                  · rw [h1, h2] at HPI hz0
                    rw [Bool.and_false] at HPI hz0
                    have g1 : l ≤ (t : Int) := by simpa using h1
                    have g2 : ¬ (t : Int) ≤ r := by simpa using h2
                    have HZ0 := Lib.hid hz0
                    clear hz0
                    go_wp2_with fail
                    go_quiet ((go_at_call 18; exact pIn_is HPI.out _ _))
                    go_wp2_with fail
                    rw [HBT.out, HZ0.out]
                    refine (HPI.out _).mono ?_
                    rintro e w' ⟨rfl, rfl⟩
                    go_wp2_with fail
                    go_roundw
                    case rel => exact ⟨i + 1, by omega, by go_num, HTu.out.trans (Joins.below_draws _ _ _)⟩
                    case measure => simp [intOf]; omega
                  · rw [h1, h2] at HPI hz0
                    rw [Bool.and_true] at HPI hz0
                    have g1 : l ≤ (t : Int) := by simpa using h1
                    have g2 : (t : Int) ≤ r := by simpa using h2
                    have HZ0 := Lib.hid hz0
                    clear hz0
                    go_wp2_with fail
                    go_quiet ((go_at_call 18; exact pIn_is HPI.out _ _))
                    go_wp2_with fail
                    rw [HBT.out, HZ0.out]
                    refine (HPI.out _).mono ?_
                    rintro e w' ⟨rfl, rfl⟩
                    go_wp2_with fail
                    go_roundw
                    case rel => exact ⟨i + 1, by omega, by go_num, HTu.out.trans (Joins.below_draws _ _ _)⟩
                    case measure => simp [intOf]; omega
              · obtain rfl : i = xs.length := by omega
                have HTi := Lib.hid hb
                clear hb
                go_wp2_with fail
                go_roundw
                case rel => exact ⟨t + 1, by omega, by go_num, by rw [HMN.out], HTi.out⟩
                case measure => simp [intOf]; omega
          · have hcm2 : ¬ (m : Int) < (c : Int) := by omega
            have HMN : Hid (mostA xs (t+1) = m) := by rw [Hid, HMSt.out, if_neg hcm]
            clear HMSt
            go_wp2_with fail
            refine (HPM.out _).mono ?_
            rintro e w' ⟨rfl, rfl⟩
            go_wp2_with fail
            clear hcm2 hcm
            go_loopw [96] (fun i wr => ∃ i' : Nat, i' ≤ xs.length ∧ i = .int .i64 i' ∧ Below w8.heap.size w8 wr) (fun i _ => xs.length - (intOf i).toNat)
            case atStart => exact ⟨0, Nat.zero_le _, rfl, HT9.out⟩
            case round =>
              obtain ⟨i, hi, rfl, hb⟩ := hrel
              by_cases hit : i < xs.length
              · have i1 : (i : Int) < (xs.length : Int) := by omega
                have HTi := Lib.hid hb
                obtain ⟨b2, o2, rfl, hb2, hc2, hc3⟩ := (HV.out.below hb).pair HEL.out hit
                rw [(HPR.out i hit).1] at hc2
                rw [(HPR.out i hit).2] at hc3
                have ⟨zA2, cA2, dA2⟩ := HHA.out.below hb
                have hab := HABt.out i hit
                have his := HISt.out i hlt hit
                rw [hab] at his
                obtain ⟨F, hF⟩ : ∃ F, F = freeN xs i := ⟨_, rfl⟩
                have hF9 := HFR.out i
                rw [← hF] at his hF9
                have h10 := pow_small (q := i) (by omega)
                have h2i : (2 : Nat) ^ i < 1024 := by
                  have := Nat.pow_lt_pow_right (show 1 < 2 by omega) (show i < 10 by omega)
                  have h3 : (2 : Nat) ^ 10 = 1024 := by decide
                  omega
                obtain ⟨Z, hZ⟩ : ∃ Z, Z = sub (sub A F) (2 ^ i) := ⟨_, rfl⟩
                have s1 : sub A F < 1024 := sub_lt (n := 10) (by omega)
                have hbits : bits .andNot .i64 (bits .andNot .i64 (A : Int) (F : Int)) (wrap64 (2 ^ i)) = (Z : Int) := by
                  rw [sub_nat A F (by omega) (by omega), show wrap64 ((2 : Int) ^ i) = ((2 ^ i : Nat) : Int) from (by have h := h10.1; rw [i64_wrap] at h; rw [h]; simp), sub_nat _ _ (by omega) (by omega), hZ]
                have hz0 : ((Z : Int) == 0) = (Z == 0) := nat_beq Z 0
                rw [← hZ] at his
                rw [his] at hz0
                have HIC := Lib.hid (fun W h => HIN.out W i hit h)
                rw [← hF] at HIC
                obtain ⟨l, hll⟩ : ∃ l, l = lv xs i := ⟨_, rfl⟩
                obtain ⟨r, hrr⟩ : ∃ r, r = rtE xs i := ⟨_, rfl⟩
                rw [← hll] at hc2 hab hz0
                rw [← hrr] at hc3 hab hz0
                have HPI : Hid (∀ W, Calls Try.prog 18 #[.int .i64 (A : Int), .int .i64 (i : Int)] W fun e w' => e = .returned (.bool (decide (l ≤ (t : Int)) && decide ((t : Int) ≤ r))) ∧ W = w') := fun W => by
                  have := pIn_any (A : Int) (i : Int) W (by omega) (by omega) (by omega)
                  rw [hab] at this
                  exact this
                have HRx := Lib.hid (HR.out.below hb)
                have HBT := Lib.hid hbits
                clear hbits hab his hZ hF hll hrr h10 h2i s1 hF9
                go_wp2_with fail
                have ba := (Below.refl wr.heap.size wr).alloc (Nat.le_refl _) (.cells #[.int .i64 l, .int .i64 r] 54)
                refine (HIC.out _ (HRx.out.alloc _)).mono ?_
                rintro e u1 ⟨rfl, hu1⟩
                have HX := Lib.hid ((Box2.new wr (.int .i64 l) (.int .i64 r) 54).below hu1)
                have HTu : Hid (Below w8.heap.size w8 u1) := (HTi.out.trans (ba.mono HTi.out.size)).trans (hu1.mono (by have := HTi.out.size; have := ba.size; omega))
                have ⟨zX, cX, dX⟩ := HX.out
                clear hu1 ba cA2 dA2 zA2
                cases h1 : decide (l ≤ (t : Int))
                · rw [h1] at HPI hz0
                  rw [Bool.false_and] at HPI hz0
                  have g1 : ¬ l ≤ (t : Int) := by simpa using h1
                  have HZ0 := Lib.hid hz0
                  clear hz0
                  go_wp2_with fail
                  go_quiet ((go_at_call 18; exact pIn_is HPI.out _ _))
                  go_wp2_with fail
                  rw [HBT.out, HZ0.out]
                  refine (HPI.out _).mono ?_
                  rintro e w' ⟨rfl, rfl⟩
                  go_wp2_with fail
                  go_roundw
                  case rel => exact ⟨i + 1, by omega, by go_num, HTu.out.trans (Joins.below_draws _ _ _)⟩
                  case measure => simp [intOf]; omega
                · cases h2 : decide ((t : Int) ≤ r)
                  · rw [h1, h2] at HPI hz0
                    rw [Bool.and_false] at HPI hz0
                    have g1 : l ≤ (t : Int) := by simpa using h1
                    have g2 : ¬ (t : Int) ≤ r := by simpa using h2
                    have HZ0 := Lib.hid hz0
                    clear hz0
                    go_wp2_with fail
                    go_quiet ((go_at_call 18; exact pIn_is HPI.out _ _))
                    go_wp2_with fail
                    rw [HBT.out, HZ0.out]
                    refine (HPI.out _).mono ?_
                    rintro e w' ⟨rfl, rfl⟩
                    go_wp2_with fail
                    go_roundw
                    case rel => exact ⟨i + 1, by omega, by go_num, HTu.out.trans (Joins.below_draws _ _ _)⟩
                    case measure => simp [intOf]; omega
                  · rw [h1, h2] at HPI hz0
                    rw [Bool.and_true] at HPI hz0
                    have g1 : l ≤ (t : Int) := by simpa using h1
                    have g2 : (t : Int) ≤ r := by simpa using h2
                    have HZ0 := Lib.hid hz0
                    clear hz0
                    go_wp2_with fail
                    go_quiet ((go_at_call 18; exact pIn_is HPI.out _ _))
                    go_wp2_with fail
                    rw [HBT.out, HZ0.out]
                    refine (HPI.out _).mono ?_
                    rintro e w' ⟨rfl, rfl⟩
                    go_wp2_with fail
                    go_roundw
                    case rel => exact ⟨i + 1, by omega, by go_num, HTu.out.trans (Joins.below_draws _ _ _)⟩
                    case measure => simp [intOf]; omega
              · obtain rfl : i = xs.length := by omega
                have HTi := Lib.hid hb
                clear hb
                go_wp2_with fail
                go_roundw
                case rel => exact ⟨t + 1, by omega, by go_num, by rw [HMN.out], HTi.out⟩
                case measure => simp [intOf]; omega
        · obtain rfl : t = D := by omega
          have he : (((mostA xs t : Nat) : Int) == ((mostA xs t : Nat) : Int)) = true := by simp
          generalize mostA xs t = mm at *
          go_wp2_with fail
          go_ret
          exact ⟨by simp, HB.out.trans (hb.mono HB.out.size)⟩

theorem rd_of_trod {H : Type} {enc : TypeId × Value → H} {W : World} {fuel : Nat} {c : Value} {y : DataW H × List MemPlace}
    (h : DataW.trod enc Try.prog W 0 (fun _ => true) true fuel 24 [c] = some y) : ∃ (a : Option Addr) (xs : List Int) (cap : Nat), c = .slice a xs.length cap ∧ Rd W a xs ∧ ∀ k, k < xs.length → (Lit.int .i64 (nth xs k)).wf = true := by
  rcases Go.ChangeShapes.open_ints Try.underlying24 Try.underlying3 (by kernel_rfl) h with ⟨hcs, _⟩ | ⟨x, len, cap, zs, hcs, _, hl, hm, hz, _, hcell, hwf⟩
  · simp only [List.cons.injEq, and_true] at hcs
    exact ⟨none, [], 0, hcs, ⟨by simp, fun k hk => by simp at hk⟩, fun k hk => by simp at hk⟩
  · simp only [List.cons.injEq, and_true] at hcs
    simp only [if_true] at hz
    have hlen : (zs.take len).length = len := by rw [List.length_take]; omega
    have hn : ∀ k, k < len → nth (zs.take len) k = zs.getD k 0 := by
      intro k hk
      simp only [nth, List.getD_eq_getElem?_getD, List.getElem?_take, hk, if_true]
    refine ⟨some x, zs.take len, cap, by rw [hlen]; exact hcs, ⟨by rw [hlen]; unfold maxLen at hm; omega, fun k hk => ?_⟩, fun k hk => ?_⟩
    · rw [hlen] at hk
      obtain ⟨b, off, sp⟩ := x
      have h0 := hcell 0 (by omega)
      have hsp : sp = none := by simpa [Addr.add] using World.cell?_spot h0
      subst hsp
      have hk' := hcell k (by omega)
      rw [Addr.add_lit] at hk'
      exact ⟨b, off, rfl, World.block_lt_of_cell? _ _ h0, by rw [hk', hn k hk]⟩
    · rw [hlen] at hk
      rw [hn k hk]
      have hk2 : k < zs.length := by omega
      exact hwf _ (by rw [List.getD_eq_getElem?_getD, List.getElem?_eq_getElem hk2]; exact List.getElem_mem hk2)

theorem own : ownKnob Try.prog.godebug = none := by kernel_rfl
theorem laidOut : laidOutB Try.prog = true := by kernel_rfl
theorem wf_bd {n : Int} (h : (Lit.int .i64 n).wf = true) : -9223372036854775808 ≤ n ∧ n ≤ 9223372036854775807 := by
  simp [Lit.wf, IntKind.min, IntKind.max, IntKind.bits, IntKind.signed] at h
  omega

theorem wf_byte {n : Int} (h : (Lit.int .u8 n).wf = true) : 0 ≤ n ∧ n ≤ 255 := by
  simp [Lit.wf, IntKind.min, IntKind.max, IntKind.bits, IntKind.signed] at h
  omega
/-- a slice of bytes that was handed over -/
theorem rdB_of_trod {H : Type} {enc : TypeId × Value → H} {W : World} {fuel : Nat} {c : Value} {y : DataW H × List MemPlace}
    (h : DataW.trod enc Try.prog W 0 (fun _ => true) true fuel 22 [c] = some y) : ∃ (a : Option Addr) (n cap : Nat), c = .slice a n cap ∧ RdB W a n ∧ n ≤ 9223372036854775807 := by
  rcases Go.ChangeShapes.open_ints Try.underlying22 Try.underlying5 (by kernel_rfl) h with ⟨hcs, _⟩ | ⟨x, len, cap, zs, hcs, _, hl, hm, hz, _, hcell, hwf⟩
  · simp only [List.cons.injEq, and_true] at hcs
    exact ⟨none, 0, 0, hcs, ⟨fun k hk => by omega⟩, by omega⟩
  · simp only [List.cons.injEq, and_true] at hcs
    simp only [if_true] at hz
    refine ⟨some x, len, cap, hcs, ⟨fun k hk => ?_⟩, by unfold maxLen at hm; omega⟩
    obtain ⟨b, off, sp⟩ := x
    have h0 := hcell 0 (by omega)
    have hsp : sp = none := by simpa [Addr.add] using World.cell?_spot h0
    subst hsp
    have hk' := hcell k (by omega)
    rw [Addr.add_lit] at hk'
    have hk2 : k < zs.length := by omega
    have hw := hwf _ (show zs.getD k 0 ∈ zs by rw [List.getD_eq_getElem?_getD, List.getElem?_eq_getElem hk2]; exact List.getElem_mem hk2)
    refine ⟨b, off, rfl, World.block_lt_of_cell? _ _ h0, zs.getD k 0, hk', ?_⟩
    exact wf_byte hw

open Go.ChangeShapes Go.WideShapes Go.ChangeAt Go.RowKit in
set_option maxRecDepth 100000 in
theorem lifted (os : Os) (started : os.Started) (H : Type) (enc : TypeId × Value → H) :
    ReturnsInHanded {} Try.checked os 9 .any (Rows.fnSetsAlongSpec.pre6 enc Try.prog Try.f9 Rows.fnSetsAlongRow.domain false) (Rows.fnSetsAlongSpec.post enc Try.prog Try.f9 false true false false) := by
  refine returnsInHanded_of_change (C := Try.checked) own started (by kernel_rfl) Try.func9
    (ChangeSpec.witness6 (enc := enc) (C := Try.checked) false ⟨#[], #[.slice none 0 0, .slice none 0 0], []⟩ 8 (by kernel_rfl) (by kernel_rfl) (by kernel_rfl) (by kernel_rfl)) ?_
  intro W base args ds gs before hval0 hW hcnd _
  have hval : ∀ (j : Nat) t v, Try.f9.params[j]? = some t → args[j]? = some v → Value.okWide Try.prog W .any base t v := hval0
  have hW' := hW
  obtain ⟨p, q, hA0, hV, rfl, hfz, hnd⟩ := hW
  have hA : DataW.TrodAll enc Try.prog W 0 (fun _ => true) true Try.f9.params.toList args.toList ds p := hA0
  rw [Try.params9] at hA hval
  obtain ⟨v0, vs0, d0, ds0, p0, q0, hargs, rfl, rfl, h0, r0⟩ := trodAll_cons hA
  obtain ⟨v1, vs1, d1, ds1, p1, q1, rfl, rfl, rfl, h1, r1⟩ := trodAll_cons r0
  obtain ⟨rfl, rfl, rfl⟩ := trodAll_nil r1
  obtain rfl : args = #[v0, v1] := by cases args; simp_all
  obtain ⟨rfl, rfl⟩ := trodVars_none hV
  have lt0 : ∀ x ∈ p0, x.block < W.heap.size := by obtain ⟨m, hm⟩ := h0; exact DataW.trod_lt m _ _ _ hm
  have lt1 : ∀ x ∈ p1, x.block < W.heap.size := by obtain ⟨m, hm⟩ := h1; exact DataW.trod_lt m _ _ _ hm
  obtain ⟨a0, len0, cap0, rfl⟩ := okWide_slice Try.underlying22 (hval 0 22 v0 rfl rfl)
  obtain ⟨a0, n0, cap0, e0, rd0, ln0⟩ := (by obtain ⟨fu, hf⟩ := h0; simp only [Value.cells] at hf; exact rdB_of_trod hf : ∃ (a : Option Addr) (n cap : Nat), Value.slice a0 len0 cap0 = .slice a n cap ∧ RdB W a n ∧ n ≤ 9223372036854775807)
  simp only [Value.slice.injEq] at e0
  obtain ⟨rfl, rfl, rfl⟩ := e0
  obtain ⟨a1, len1, cap1, rfl⟩ := okWide_slice Try.underlying22 (hval 1 22 v1 rfl rfl)
  obtain ⟨a1, n1, cap1, e1, rd1, ln1⟩ := (by obtain ⟨fu, hf⟩ := h1; simp only [Value.cells] at hf; exact rdB_of_trod hf : ∃ (a : Option Addr) (n cap : Nat), Value.slice a1 len1 cap1 = .slice a n cap ∧ RdB W a n ∧ n ≤ 9223372036854775807)
  simp only [Value.slice.injEq] at e1
  obtain ⟨rfl, rfl, rfl⟩ := e1
  clear hA0 hval0
  refine (walk a0 len0 cap0 a1 len1 cap1 W rd0 ln0 rd1 ln1).mono fun e W' ⟨he, bel⟩ => ?_
  subst he
  exact ⟨_, rfl, _, _, _, [], _, [], hW', trodAll_mk1 (shut_bool Try.underlying4 _), (trodAll_cons_mk (Below.trod laidOut (by kernel_rfl) (of_decide_eq_true (by kernel_rfl)) h0 bel lt0) (trodAll_cons_mk (Below.trod laidOut (by kernel_rfl) (of_decide_eq_true (by kernel_rfl)) h1 bel lt1) trodAll_mk0)), rfl, bel.frame _, fun h => by cases h⟩
theorem proved : Rows.FnSetsAlongSaid :=
  OpenClaim.holds_of_wide 9 Try.f9 rfl rfl rfl rfl rfl rfl rfl ⟨rfl, rfl, rfl, rfl, rfl⟩ rfl rfl rfl rfl rfl (by kernel_rfl) Try.func9 (by kernel_rfl)
    (of_decide_eq_true (by kernel_rfl)) (by unfold Func.isWrapper; first | (rw [if_pos (by decide +kernel)]; kernel_rfl) | (rw [if_neg (by decide +kernel)]; exact ⟨rfl, rfl⟩))
    (fun os started H enc _ => lifted os started H enc)

end Go.Proofs.Ytjddjfckflgojaa.setsAlong
