/- PROVED: the law FnExactAreLeastEnds returns true for every input, and each of its arguments reads afterwards as before. No conditions. -/
import Derived.Test.YtonphneolkijcaaRows
import Derived.WalkKit
import Derived.WalkSpells
import Derived.WalkLawsBesides
import Derived.Deep.QuietTactic
import Derived.BigQuiet
import Derived.ProofKit
import Derived.OpenShut
import Derived.ShutString
import Derived.ChangeOld
import Derived.Below
import Derived.Lib.SmallJoins
import Derived.Lib.Hide
import Derived.Deep.RegionHeld3
import Derived.Shelf.Small.Bits
import Derived.Shelf.Small.Wraps
import Derived.Shelf.Strconv.Itoa0
import Derived.Shelf.Sort.Plain
import Derived.Shelf.Slices.Turned
import Derived.Shelf.Slices.Reverse
import Derived.Shelf.Slices.Equal
import Derived.Shelf.Slices.CompactI
import Derived.Shelf.Slices.SearchI
import Derived.Shelf.Slices.Cells
import Derived.Shelf.Slices.In.SortNone
import Derived.Shelf.Slices.Empties2
import Derived.Shelf.SlicesE.Reverse
import Derived.Sort.OwnSortedInts
import Derived.Lib.SlicesCompact
import Derived.Lib.RowBridge
import Derived.Deep.SlicePairs
import Derived.Test.YtonphneolkijcaaAreLeastEndsP1
namespace Go.Proofs.Ytonphneolkijcaa.areLeastEnds
open Go Go.RowKit
set_option linter.unusedVariables false
set_option linter.unusedSimpArgs false
set_option maxHeartbeats 400000
open Go.Shelf
theorem iLevels_any (n : Int) (a : Option Addr) (xs : List Int) (cap : Nat) (w : World) (hn : -9223372036854775808 ≤ n ∧ n ≤ 9223372036854775807) (hx : Rd w a xs) :
    Calls Try.prog 95 #[.agg #[.int .i64 n, .slice a xs.length cap]] w fun e w' => ∃ a' cap', e = .returned (.tuple #[.slice a' (levL n xs).length cap', .bool (isIv n xs)]) ∧ OwnI w' w.heap.size (.slice a' (levL n xs).length cap') (levL n xs) ∧ Below w.heap.size w w' := by
  have hx1 := hx.alloc (.cells #[.int .i64 n, .slice a xs.length cap] 32)
  obtain ⟨i0, hi, hz0, hz1, hz2⟩ := info_parts infoInt
  cases hr : isIv n xs
  · have H1 : Hid (levL n xs = []) := by simp [Hid, levL, hr]
    have HR := Lib.hid hr
    clear hr
    go_enter Try.func95, Try.ntmps95
    go_wp2_with fail
    refine (iIsInterval_any _ _ _ _ _ hn hx1).mono ?_
    rw [HR.out]
    rintro e w1 ⟨rfl, hb1⟩
    have bw1 : Below w.heap.size w w1 := Below.trans (by repeat (first | exact Below.refl _ _ | assumption | refine Below.alloc ?_ (by first | exact Nat.le_refl _ | (simp only [World.size_alloc, World.size_setCell, World.size_drew]; omega) | omega) _ | refine Below.setCell ?_ (by first | exact Nat.le_refl _ | (simp only [World.size_alloc, World.size_setCell, World.size_drew]; omega) | omega) _ | refine Below.drew ?_)) (hb1.mono (by first | (simp only [World.size_alloc, World.size_setCell, World.size_drew]; omega) | omega))
    go_wp2_with fail
    refine bodyPost_ret (v := .tuple #[.slice none 0 0, .bool false]) (by simp [results, Try.results95, go_sem]) rfl ?_
    exact ⟨none, 0, by rw [H1.out]; rfl, by rw [H1.out]; exact OwnI.nil _ _, bw1⟩
  · have ho := isIv_ord hr
    have hp := ord_rel ho
    have H1 : Hid (levL n xs = levs xs xs.length) := by simp [Hid, levL, hr]
    have HR := Lib.hid hr
    have HO := Lib.hid ho
    obtain rfl : n = (xs.length : Int) := hp.len.symm
    have hl10 : xs.length ≤ 10 := by have := hp.n1; omega
    clear hr ho
    go_enter Try.func95, Try.ntmps95
    go_wp2_with fail
    refine (iIsInterval_any _ _ _ _ _ hn hx1).mono ?_
    rw [HR.out, HO.out]
    rintro e w1 ⟨rfl, hb1⟩
    have A1 : Box2 w1 w.heap.size (.int .i64 (xs.length : Int)) (.slice a xs.length cap) := (Box2.new w _ _ _).below hb1
    have bw1 : Below w.heap.size w w1 := Below.trans (by repeat (first | exact Below.refl _ _ | assumption | refine Below.alloc ?_ (by first | exact Nat.le_refl _ | (simp only [World.size_alloc, World.size_setCell, World.size_drew]; omega) | omega) _ | refine Below.setCell ?_ (by first | exact Nat.le_refl _ | (simp only [World.size_alloc, World.size_setCell, World.size_drew]; omega) | omega) _ | refine Below.drew ?_)) (hb1.mono (by first | (simp only [World.size_alloc, World.size_setCell, World.size_drew]; omega) | omega))
    have ⟨zA, cA, dA⟩ := A1
    clear hb1
    go_wp2_with fail
    refine (lowerSets_any _ _ _ _ _ (hx.below bw1) hp).mono ?_
    obtain ⟨ss, hss⟩ : ∃ ss, ss = sets xs := ⟨_, rfl⟩
    have hbd : ∀ m, m < ss.length → 0 ≤ nth ss m ∧ nth ss m < 1024 := fun m hm => by rw [hss] at hm ⊢; exact setsTo_bd hl10 hm
    have hlv : ∀ i, lv xs i = ((lvTo ss ((belowTo xs (i : Int) xs.length : Nat) : Int) ss.length : Nat) : Int) := fun i => by rw [hss]; rfl
    have hsl : ss.length ≤ xs.length := by rw [hss]; exact sets_len xs
    rw [← hss]
    have HBD := Lib.hid hbd
    have HLV := Lib.hid hlv
    clear hss hbd hlv
    rintro e w2 ⟨a2, cap2, rfl, ho2, hb2⟩
    have A2 := A1.below hb2
    have bw2 := bw1.trans (hb2.mono bw1.size)
    have hrs := ho2.rd
    have zw2 : w.heap.size + 1 ≤ w2.heap.size := by have := A2.1; omega
    clear zA cA dA A1 hb2
    have ⟨zA, cA, dA⟩ := A2
    go_wp2_with (at_make; refine wpList_make_full _ rfl (.tmp 22) (.tmp 22) 23 rfl w2.heap.size 3 i0 (.int .i64 0) 1 Try.underlying23 hi hz0 hz1 .i64 .i64 _ _ xs.length rfl rfl rfl rfl (by rw [hz2]; omega) (by unfold maxLen; omega) (Nat.le_refl _) ?_; intro w3 hown hgrow; have A3 := A2.kept hgrow (by simp))
    have hb3 : Below w2.heap.size w2 w3 := (Below.refl _ _).grown hgrow (Nat.le_refl _) (fun k h => by cases h)
    have hown0 := made_row (lv xs) hown
    clear hown hgrow cA dA zA A2
    go_wp2_with fail
    go_loopw [26] (fun i wr => ∃ k : Nat, k ≤ xs.length ∧ i = .int .i64 k ∧ OwnI wr w2.heap.size (.slice (some ⟨w2.heap.size, 0, none⟩) xs.length xs.length) (rowF (lv xs) xs.length k) ∧ Below w2.heap.size w2 wr ∧ Box2 wr w.heap.size (.int .i64 (xs.length : Int)) (.slice a xs.length cap)) (fun i _ => xs.length - (intOf i).toNat)
    case atStart => exact ⟨0, Nat.zero_le _, rfl, hown0, hb3, A3⟩
    case round =>
      obtain ⟨k, hk, rfl, hown, hb, hA⟩ := hrel
      have ⟨zB, cB, dB⟩ := hA
      by_cases hlt : k < xs.length
      · have k0 : (0 : Int) ≤ (k : Int) := by omega
        have k1 : (k : Int) < (xs.length : Int) := by omega
        have hbt := belowTo_small xs (k : Int) (k := xs.length) hl10
        go_wp2_with fail
        refine (belowSet_any _ _ _ _ _ _ (hx.below (bw2.trans (hb.mono bw2.size))) hp k0).mono ?_
        rintro e w4 ⟨rfl, hb4⟩
        have A4 := hA.below hb4
        have b4 := hb.trans (hb4.mono hb.size)
        have o4 := hown.below hb4 (Nat.le_refl _)
        clear cB dB hb4 hown
        go_wp2_with fail
        go_loopw [34] (fun i' wi => ∃ j : Nat, j ≤ ss.length ∧ i' = .int .i64 j ∧ OwnI wi w2.heap.size (.slice (some ⟨w2.heap.size, 0, none⟩) xs.length xs.length) ((rowF (lv xs) xs.length k).set k ((lvTo ss ((belowTo xs (k : Int) xs.length : Nat) : Int) j : Nat) : Int)) ∧ Below w2.heap.size w2 wi ∧ Box2 wi w.heap.size (.int .i64 (xs.length : Int)) (.slice a xs.length cap)) (fun i _ => ss.length - (intOf i).toNat)
        case atStart => exact ⟨0, Nat.zero_le _, rfl, by rw [lvTo, show (((0 : Nat) : Nat) : Int) = 0 from rfl, rowF_zero _ hlt]; exact o4, b4, A4⟩
        case round =>
          obtain ⟨j, hj, rfl, hown, hb, hA⟩ := hrel
          by_cases hjl : j < ss.length
          · obtain ⟨b2, off2, rfl, hbl2, hc2⟩ := (hrs.below hb).cell j hjl
            have ⟨s0, s1⟩ := HBD.out j hjl
            have hle := lvTo_le ss ((belowTo xs (k : Int) xs.length : Nat) : Int) j
            cases hne : (nth ss j != ((belowTo xs (k : Int) xs.length : Nat) : Int))
            · have HN := Lib.hid (lessB_ne hne)
              go_wp2_with fail
              go_roundw
              case rel => exact ⟨j + 1, by omega, by go_num, by simp only [lvTo, HN.out]; exact hown, hb, hA⟩
              case measure => simp [intOf]; omega
            · have hsb := lessB_sub s0 s1 hbt hne
              cases hlb : lessB (nth ss j) ((belowTo xs (k : Int) xs.length : Nat) : Int)
              · rw [hlb] at hsb
                have HN := Lib.hid hlb
                clear hlb
                go_wp2_with fail
                go_roundw
                case rel => exact ⟨j + 1, by omega, by go_num, by simp only [lvTo, HN.out]; exact hown, hb, hA⟩
                case measure => simp [intOf]; omega
              · rw [hlb] at hsb
                have HN := Lib.hid hlb
                clear hlb
                obtain ⟨row, hrow⟩ : ∃ row, row = (rowF (lv xs) xs.length k).set k ((lvTo ss ((belowTo xs (k : Int) xs.length : Nat) : Int) j : Nat) : Int) := ⟨_, rfl⟩
                have hrl : row.length = xs.length := by rw [hrow, List.length_set, rowF_len _ hk]
                have hrk : nth row k = ((lvTo ss ((belowTo xs (k : Int) xs.length : Nat) : Int) j : Nat) : Int) := by rw [hrow, nth_set (by rw [rowF_len _ hk]; exact hlt), if_pos rfl]
                have hrs : ∀ y, row.set k y = (rowF (lv xs) xs.length k).set k y := by intro y; rw [hrow, List.set_set]
                rw [← hrow] at hown
                have ⟨ci, fi⟩ := hown.at' hrl.symm (i := k) (by omega)
                rw [hrk] at ci
                have hput := hown.put hrl.symm k ((lvTo ss ((belowTo xs (k : Int) xs.length : Nat) : Int) j + 1 : Nat) : Int)
                rw [hrs] at hput
                have HP := Lib.hid hput
                clear hput hrow hrl hrk hrs hown
                go_wp2_with fail
                go_roundw
                case rel =>
                  refine ⟨j + 1, by omega, by go_num, ?_, hb.setCell (p := ⟨w2.heap.size, k, none⟩) (Nat.le_refl _) _, hA.set (p := ⟨w2.heap.size, k, none⟩) _ (show w.heap.size ≠ w2.heap.size by omega)⟩
                  have := HP.out.1
                  simp only [lvTo, HN.out, if_true]
                  exact this
                case measure => simp [intOf]; omega
          · obtain rfl : j = ss.length := by omega
            have hnext : (rowF (lv xs) xs.length k).set k ((lvTo ss ((belowTo xs (k : Int) xs.length : Nat) : Int) ss.length : Nat) : Int) = rowF (lv xs) xs.length (k + 1) := by
              rw [← rowF_set _ hlt, HLV.out]
            rw [hnext] at hown
            have HN := Lib.hid hown
            clear hnext hown
            go_wp2_with fail
            go_roundw
            case rel => exact ⟨k + 1, by omega, by go_num, HN.out, hb, hA⟩
            case measure => simp [intOf]; omega
      · obtain rfl : k = xs.length := by omega
        rw [rowF_end] at hown
        go_wp2_with fail
        refine bodyPost_ret (v := .tuple #[.slice (some ⟨w2.heap.size, 0, none⟩) xs.length xs.length, .bool true]) (by simp [results, Try.results95, go_sem]) rfl ?_
        exact ⟨some ⟨w2.heap.size, 0, none⟩, xs.length, by rw [H1.out, levs_len], by rw [H1.out, levs_len]; exact hown.mono bw2.size, bw2.trans (hb.mono bw2.size)⟩

/-- the row while the right end of k is being found -/
def endRow (xs : List Int) (k j : Nat) : List Int := ((rowP (lv xs) (rtE xs) xs.length k).set (k * 2) (lv xs k)).set (k * 2 + 1) (rtTo 0 xs k j)
theorem endRow_len (xs : List Int) {k : Nat} (j : Nat) (h : k ≤ xs.length) : (endRow xs k j).length = xs.length * 2 := by
  rw [endRow, List.length_set, List.length_set, rowP_len _ _ h]
theorem endRow_zero (xs : List Int) {k : Nat} (h : k < xs.length) : (rowP (lv xs) (rtE xs) xs.length k).set (k * 2) (lv xs k) = endRow xs k 0 := by
  have hl := rowP_len (lv xs) (rtE xs) (Nat.le_of_lt h)
  apply nth_ext' (by rw [endRow_len xs 0 (by omega), List.length_set, hl])
  intro i hi
  rw [List.length_set, hl] at hi
  rw [endRow, nth_set' (xs := (rowP (lv xs) (rtE xs) xs.length k).set (k * 2) (lv xs k)) (by rw [List.length_set, hl]; omega)]
  by_cases e : k * 2 + 1 = i
  · subst e
    rw [if_pos rfl, nth_set' (by rw [hl]; omega), if_neg (by omega), rowP_nth _ _ (by omega) hi, if_neg (by omega)]
    rfl
  · rw [if_neg e]
theorem endRow_end (xs : List Int) {k : Nat} (h : k < xs.length) : endRow xs k xs.length = rowP (lv xs) (rtE xs) xs.length (k + 1) := rowP_next _ _ h
theorem endRow_set (xs : List Int) (k j : Nat) (y : Int) : (endRow xs k j).set (k * 2 + 1) y = ((rowP (lv xs) (rtE xs) xs.length k).set (k * 2) (lv xs k)).set (k * 2 + 1) y := by
  rw [endRow, List.set_set]
theorem endRow_nth (xs : List Int) {k : Nat} (j : Nat) (h : k < xs.length) : nth (endRow xs k j) (k * 2 + 1) = rtTo 0 xs k j := by
  rw [endRow, nth_set' (by rw [List.length_set, rowP_len _ _ (by omega)]; omega), if_pos rfl]
theorem endRow_yes {xs : List Int} {k j : Nat} (h : hasB (nth xs k) j = true) : endRow xs k (j+1) = endRow xs k j := by
  rw [endRow, endRow, rtTo, if_pos h]
theorem iEnds_any (n : Int) (a : Option Addr) (xs : List Int) (cap : Nat) (w : World) (hn : -9223372036854775808 ≤ n ∧ n ≤ 9223372036854775807) (hx : Rd w a xs) :
    Calls Try.prog 61 #[.agg #[.int .i64 n, .slice a xs.length cap]] w (GotV w (endN n xs) (endL n xs) (isIv n xs)) := by
  have hx1 := hx.alloc (.cells #[.int .i64 n, .slice a xs.length cap] 32)
  obtain ⟨i0, hi, hz0, hz1, hz2⟩ := info_parts infoIv
  cases hr : isIv n xs
  · have H1 : Hid (endN n xs = 0) := by simp [Hid, endN, hr]
    have H2 : Hid (endL n xs = []) := by simp [Hid, endL, hr]
    have H3 : Hid (levL n xs = []) := by simp [Hid, levL, hr]
    have HR := Lib.hid hr
    clear hr
    go_enter Try.func61, Try.ntmps61
    go_wp2_with fail
    refine (iLevels_any _ _ _ _ _ hn hx1).mono ?_
    rw [HR.out, H3.out]
    rintro e w1 ⟨a1, cap1, rfl, ho1, hb1⟩
    have bw1 : Below w.heap.size w w1 := Below.trans (by repeat (first | exact Below.refl _ _ | assumption | refine Below.alloc ?_ (by first | exact Nat.le_refl _ | (simp only [World.size_alloc, World.size_setCell, World.size_drew]; omega) | omega) _ | refine Below.setCell ?_ (by first | exact Nat.le_refl _ | (simp only [World.size_alloc, World.size_setCell, World.size_drew]; omega) | omega) _ | refine Below.drew ?_)) (hb1.mono (by first | (simp only [World.size_alloc, World.size_setCell, World.size_drew]; omega) | omega))
    clear ho1
    go_wp2_with fail
    refine bodyPost_ret (v := .tuple #[.slice none 0 0, .bool false]) (by simp [results, Try.results61, go_sem]) rfl ?_
    exact ⟨none, 0, by rw [H1.out], by rw [H1.out, H2.out]; exact OwnV.nil _ _, bw1⟩
  · have ho := isIv_ord hr
    have hp := ord_rel ho
    have H1 : Hid (endN n xs = xs.length) := by simp [Hid, endN, hr]
    have H2 : Hid (endL n xs = endp xs xs.length) := by simp [Hid, endL, hr]
    have H3 : Hid (levL n xs = levs xs xs.length) := by simp [Hid, levL, hr]
    have HR := Lib.hid hr
    obtain rfl : n = (xs.length : Int) := hp.len.symm
    have hl10 : xs.length ≤ 10 := by have := hp.n1; omega
    clear hr ho
    go_enter Try.func61, Try.ntmps61
    go_wp2_with fail
    refine (iLevels_any _ _ _ _ _ hn hx1).mono ?_
    rw [HR.out, H3.out, levs_len]
    rintro e w1 ⟨a1, cap1, rfl, ho1, hb1⟩
    have A1 : Box2 w1 w.heap.size (.int .i64 (xs.length : Int)) (.slice a xs.length cap) := (Box2.new w _ _ _).below hb1
    have bw1 : Below w.heap.size w w1 := Below.trans (by repeat (first | exact Below.refl _ _ | assumption | refine Below.alloc ?_ (by first | exact Nat.le_refl _ | (simp only [World.size_alloc, World.size_setCell, World.size_drew]; omega) | omega) _ | refine Below.setCell ?_ (by first | exact Nat.le_refl _ | (simp only [World.size_alloc, World.size_setCell, World.size_drew]; omega) | omega) _ | refine Below.drew ?_)) (hb1.mono (by first | (simp only [World.size_alloc, World.size_setCell, World.size_drew]; omega) | omega))
    have ⟨zA, cA, dA⟩ := A1
    have hrl : Rd w1 a1 (levs xs xs.length) := ho1.rd
    clear hb1 ho1
    go_wp2_with (at_make; refine wpList_make_full _ rfl (.tmp 19) (.tmp 19) 30 rfl w1.heap.size 49 i0 (.agg #[.int .i64 0, .int .i64 0]) 2 Try.underlying30 hi hz0 hz1 .i64 .i64 _ _ xs.length rfl rfl rfl rfl (by rw [hz2]; omega) (by unfold maxLen; omega) (Nat.le_refl _) ?_; intro w2 hown hgrow; have A2 := A1.kept hgrow (by simp))
    have hb2 : Below w1.heap.size w1 w2 := (Below.refl _ _).grown hgrow (Nat.le_refl _) (fun k h => by cases h)
    have hown0 := made_rowP (lv xs) (rtE xs) hown
    clear hown hgrow cA dA
    go_wp2_with fail
    go_loopw [23] (fun i wr => ∃ k : Nat, k ≤ xs.length ∧ i = .int .i64 k ∧ OwnV wr w1.heap.size (.slice (some ⟨w1.heap.size, 0, none⟩) xs.length xs.length) xs.length (rowP (lv xs) (rtE xs) xs.length k) ∧ Below w1.heap.size w1 wr ∧ Box2 wr w.heap.size (.int .i64 (xs.length : Int)) (.slice a xs.length cap)) (fun i _ => xs.length - (intOf i).toNat)
    case atStart => exact ⟨0, Nat.zero_le _, rfl, hown0, hb2, A2⟩
    case round =>
      obtain ⟨k, hk, rfl, hown, hb, hA⟩ := hrel
      by_cases hlt : k < xs.length
      · obtain ⟨b, off, rfl, hbl, hck⟩ := (hrl.below hb).cell k (by rw [levs_len]; exact hlt)
        rw [levs_nth xs hlt] at hck
        have k0 : (0 : Int) ≤ (k : Int) := by omega
        have k1 : (k : Int) < (xs.length : Int) := by omega
        have hpl := rowP_len (lv xs) (rtE xs) hk
        have ⟨c1, f1⟩ := hown.at' (i := k * 2) (by omega)
        have p1 := hown.put (k * 2) (lv xs k)
        rw [endRow_zero xs hlt] at p1
        have P1 := Lib.hid p1.1
        have A3 := hA.kept p1.2 (by simp; omega)
        have b3 := hb.setCell (p := ⟨w1.heap.size, k * 2, none⟩) (Nat.le_refl _) (.int .i64 (lv xs k))
        clear hown p1 hpl
        go_wp2_with fail
        go_loopw [35] (fun i' wi => ∃ j : Nat, j ≤ xs.length ∧ i' = .int .i64 j ∧ OwnV wi w1.heap.size (.slice (some ⟨w1.heap.size, 0, none⟩) xs.length xs.length) xs.length (endRow xs k j) ∧ Below w1.heap.size w1 wi ∧ Box2 wi w.heap.size (.int .i64 (xs.length : Int)) (.slice a xs.length cap)) (fun i _ => xs.length - (intOf i).toNat)
        case atStart => exact ⟨0, Nat.zero_le _, rfl, P1.out, b3, A3⟩
        case round =>
          obtain ⟨j, hj, rfl, hown, hb, hA⟩ := hrel
          have ⟨zB, cB, dB⟩ := hA
          by_cases hjl : j < xs.length
          · obtain ⟨b2, off2, e2, hbl2, hcj⟩ := (hrl.below hb).cell j (by rw [levs_len]; exact hjl)
            simp only [Option.some.injEq, Addr.mk.injEq, and_true] at e2
            obtain ⟨rfl, rfl⟩ := e2
            rw [levs_nth xs hjl] at hcj
            obtain ⟨b3, off3, rfl, hbl3, hc3⟩ := (hx.below (bw1.trans (hb.mono bw1.size))).cell k hlt
            have s0 := hp.pos k hlt
            have s2 : nth xs k ≤ 9223372036854775807 := by have := hp.small k hlt; omega
            have j0 : (0 : Int) ≤ (j : Int) := by omega
            have j1 : (j : Int) < (xs.length : Int) := by omega
            cases hhas : hasB (nth xs k) j
            · have hel := endRow_len xs (k := k) j hk
              have ⟨c2, f2⟩ := hown.at' (i := k * 2 + 1) (by omega)
              rw [endRow_nth xs j hlt] at c2
              have ⟨r0, r1⟩ := rtTo_bd (st := 0) (xs := xs) (i := k) (k := j) (by omega) (by omega)
              have ⟨l0, l1⟩ := lv_bd xs j
              have p2 := hown.put (k * 2 + 1) (rtTo 0 xs k (j + 1))
              rw [endRow_set] at p2
              have P2 := Lib.hid p2.1
              have A4 := hA.kept p2.2 (by simp; omega)
              have b4 := hb.setCell (p := ⟨w1.heap.size, k * 2 + 1, none⟩) (Nat.le_refl _) (.int .i64 (rtTo 0 xs k (j + 1)))
              have hmx : max (rtTo 0 xs k j) (lv xs j) = rtTo 0 xs k (j + 1) := by rw [rtTo_no hhas, maxI]; split <;> omega
              have HM := Lib.hid hmx
              clear p2 hel hown hmx
              go_wp2_with (go_at_call 92; refine (hasElement_any _ _ _ (by assumption) (by assumption) (by assumption)).mono ?_; rintro e w' ⟨rfl, rfl⟩)
              go_roundw
              case rel => rw [HM.out]; exact ⟨j + 1, by omega, by go_num, P2.out, b4, A4⟩
              case measure => simp [intOf]; omega
            · have HE := Lib.hid (endRow_yes hhas)
              go_wp2_with (go_at_call 92; refine (hasElement_any _ _ _ (by assumption) (by assumption) (by assumption)).mono ?_; rintro e w' ⟨rfl, rfl⟩)
              go_roundw
              case rel => exact ⟨j + 1, by omega, by go_num, by rw [HE.out]; exact hown, hb, hA⟩
              case measure => simp [intOf]; omega
          · obtain rfl : j = xs.length := by omega
            rw [endRow_end xs hlt] at hown
            go_wp2_with fail
            go_roundw
            case rel => exact ⟨k + 1, by omega, by go_num, hown, hb, hA⟩
            case measure => simp [intOf]; omega
      · obtain rfl : k = xs.length := by omega
        rw [rowP_end] at hown
        go_wp2_with fail
        refine bodyPost_ret (v := .tuple #[.slice (some ⟨w1.heap.size, 0, none⟩) xs.length xs.length, .bool true]) (by simp [results, Try.results61, go_sem]) rfl ?_
        exact ⟨some ⟨w1.heap.size, 0, none⟩, xs.length, by rw [H1.out], by rw [H1.out, H2.out]; exact hown.mono bw1.size, bw1.trans (hb.mono bw1.size)⟩

theorem iLeast_any (a : Option Addr) (cs : List Int) (n cap : Nat) (w : World) (hx : Rd w a cs) (hl : cs.length = n * 2) (hn : n ≤ 1048576) :
    Calls Try.prog 23 #[.slice a n cap] w fun e w' => e = .returned (.tuple #[.bool (leastB cs n), .bool (goodV cs n)]) ∧ Below w.heap.size w w' := by
  have HL := Lib.hid hl
  clear hl
  cases hg : goodV cs n
  · have H1 : Hid (leastB cs n = false) := by simp [Hid, leastB, hg]
    have H2 : Hid (ooN cs n = 0) := by simp [Hid, ooN, hg]
    have H3 : Hid (ooL cs n = []) := by simp [Hid, ooL, hg]
    have HG := Lib.hid hg
    clear hg
    go_enter Try.func23, Try.ntmps23
    go_wp2_with fail
    refine (iOrderOfIv_any _ _ _ _ _ hx HL.out hn).mono ?_
    rw [HG.out, H2.out, H3.out]
    rintro e w1 ⟨p1, q1, rfl, ho1, hb1⟩
    clear ho1
    go_wp2_with fail
    go_ret2
    exact ⟨ret_bb H1.out.symm rfl, hb1.alloc hb1.size _⟩
  · have hn10 := (goodV_iff.1 hg).1
    have H1 : Hid (leastB cs n = eqL cs (endp (ivo cs n n) n)) := by simp [Hid, leastB, hg]
    have H2 : Hid (ooN cs n = (n : Int)) := by simp [Hid, ooN, hg]
    have H3 : Hid (ooL cs n = ivo cs n n) := by simp [Hid, ooL, hg]
    have hiv := ivo_is hg
    have H4 : Hid (endN (n : Int) (ivo cs n n) = n) := by rw [Hid, endN, if_pos hiv, ivo_len]
    have H5 : Hid (endL (n : Int) (ivo cs n n) = endp (ivo cs n n) n) := by rw [Hid, endL, if_pos hiv, ivo_len]
    have HG := Lib.hid hg
    have HIV := Lib.hid hiv
    clear hg hiv
    go_enter Try.func23, Try.ntmps23
    go_wp2_with fail
    refine (iOrderOfIv_any _ _ _ _ _ hx HL.out hn).mono ?_
    rw [HG.out, H2.out, H3.out]
    unfold GotO
    rw [ivo_len]
    rintro e w1 ⟨p1, q1, rfl, ho1, hb1⟩
    have hr1 : Rd w1 p1 (ivo cs n n) := ho1.rd
    clear ho1
    go_wp2_with fail
    have hc := iEnds_any (n : Int) p1 (ivo cs n n) q1 (w1.alloc (.cells #[.int .i64 (n : Int), .slice p1 n q1] 32)) (by omega) (hr1.alloc _)
    rw [HIV.out, H4.out, H5.out, ivo_len] at hc
    refine hc.mono ?_
    rintro e w2 ⟨p2, q2, rfl, ho2, hb2⟩
    clear hc
    have ht2 : Below w1.heap.size w1 w2 := Below.trans (by repeat (first | exact Below.refl _ _ | assumption | refine Below.alloc ?_ (by first | exact Nat.le_refl _ | (simp only [World.size_alloc, World.size_setCell, World.size_drew]; omega) | omega) _ | refine Below.setCell ?_ (by first | exact Nat.le_refl _ | (simp only [World.size_alloc, World.size_setCell, World.size_drew]; omega) | omega) _ | refine Below.drew ?_)) (hb2.mono (by first | (simp only [World.size_alloc, World.size_setCell, World.size_drew]; omega) | omega))
    have bw2 := hb1.trans (ht2.mono hb1.size)
    have hr2 : Rd w2 p2 (endp (ivo cs n n) n) := ho2.rd (by omega)
    clear ho2 hb2
    go_wp2_with fail
    refine (equalV_any _ _ _ _ _ _ _ _ _ (hx.below bw2) hr2 HL.out (prs_len _ _ _) hn hn).mono ?_
    rintro e w3 ⟨rfl, hb3⟩
    go_wp2_with fail
    go_ret2
    exact ⟨ret_bb H1.out.symm rfl, bw2.trans (hb3.mono bw2.size)⟩

theorem walk (a0 : Option Addr) (xs0 : List Int) (n0 cap0 : Nat) (w : World) (hy0 : n0 ≤ 1048576 → Rd w a0 xs0) (hl0 : xs0.length = n0 * 2) (hm0 : n0 ≤ 9223372036854775807) :
    Calls Try.prog 4 #[.slice a0 n0 cap0] w fun e w' => e = .returned (.bool true) ∧ Below w.heap.size w w' := by
  have HL0 := Lib.hid hl0
  clear hl0
  by_cases hs0 : 1048576 < (n0 : Int)
  · go_enter Try.func4, Try.ntmps4
    go_wp2_with fail
    refine (szIntervalS_no (by omega) (by omega) (by omega) hm0).mono ?_
    rintro e w' ⟨rfl, rfl⟩
    go_wp2_with fail
    go_ret
    exact ⟨rfl, (by repeat (first | exact Below.refl _ _ | assumption | refine Below.alloc ?_ (by first | exact Nat.le_refl _ | (simp only [World.size_alloc, World.size_setCell, World.size_drew]; omega) | omega) _ | refine Below.setCell ?_ (by first | exact Nat.le_refl _ | (simp only [World.size_alloc, World.size_setCell, World.size_drew]; omega) | omega) _ | refine Below.drew ?_))⟩
  have hx0 := hy0 (by omega)
  clear hy0
  go_enter Try.func4, Try.ntmps4
  go_wp2_with fail
  refine (szIntervalS_ok (by omega) (by omega)).mono ?_
  rintro e w' ⟨rfl, rfl⟩
  go_wp2_with fail
  refine (toIntervalS_any _ _ _ _ _ (hx0.below (Below.refl _ _)) HL0.out (by omega)).mono ?_
  rintro e w1 ⟨pT0, qT0, rfl, ho, hb⟩
  have ht : Below w.heap.size w w1 := Below.trans (by repeat (first | exact Below.refl _ _ | assumption | refine Below.alloc ?_ (by first | exact Nat.le_refl _ | (simp only [World.size_alloc, World.size_setCell, World.size_drew]; omega) | omega) _ | refine Below.setCell ?_ (by first | exact Nat.le_refl _ | (simp only [World.size_alloc, World.size_setCell, World.size_drew]; omega) | omega) _ | refine Below.drew ?_)) (hb.mono (by first | (simp only [World.size_alloc, World.size_setCell, World.size_drew]; omega) | omega))
  have z1 : w.heap.size ≤ w1.heap.size := ht.size
  have bw1 : Below w.heap.size w w1 := ht
  have T0_1 := ho
  have UT0 := T0_1.cut (Nat.le_refl _)
  clear ho
  clear ht hb
  go_wp2_with fail
  refine (sLeast_any _ _ _ _ _ ((T0_1.rd (by omega))) HL0.out (by omega)).mono ?_
  rintro e w2 ⟨rfl, hb⟩
  have ht : Below w1.heap.size w1 w2 := hb
  have z2 : w1.heap.size ≤ w2.heap.size := ht.size
  have bw2 : Below w.heap.size w w2 := bw1.trans (ht.mono bw1.size)
  have T0_2 := T0_1.below ht (Nat.le_refl _)
  clear T0_1
  clear ht hb
  go_wp2_with fail
  clear T0_2 UT0
  refine (toIntervalS_any _ _ _ _ _ (hx0.below bw2) HL0.out (by omega)).mono ?_
  rintro e w3 ⟨pX0, qX0, rfl, ho, hb⟩
  have ht : Below w2.heap.size w2 w3 := hb
  have z3 : w2.heap.size ≤ w3.heap.size := ht.size
  have bw3 : Below w.heap.size w w3 := bw2.trans (ht.mono bw2.size)
  have X0_3 := ho
  have UX0 := X0_3.cut (Nat.le_refl _)
  clear ho
  clear ht hb
  go_wp2_with fail
  refine (iLeast_any _ _ _ _ _ ((X0_3.rd (by omega))) HL0.out (by omega)).mono ?_
  rintro e w4 ⟨rfl, hb⟩
  have ht : Below w3.heap.size w3 w4 := hb
  have z4 : w3.heap.size ≤ w4.heap.size := ht.size
  have bw4 : Below w.heap.size w w4 := bw3.trans (ht.mono bw3.size)
  have X0_4 := X0_3.below ht (Nat.le_refl _)
  clear X0_3
  clear ht hb
  go_wp2_with fail
  refine (toIntervalS_any _ _ _ _ _ (hx0.below bw4) HL0.out (by omega)).mono ?_
  rintro e w5 ⟨pY0, qY0, rfl, ho, hb⟩
  have ht : Below w4.heap.size w4 w5 := hb
  have z5 : w4.heap.size ≤ w5.heap.size := ht.size
  have bw5 : Below w.heap.size w w5 := bw4.trans (ht.mono bw4.size)
  have X0_5 := X0_4.below ht (Nat.le_refl _)
  clear X0_4
  have Y0_5 := ho
  have UY0 := Y0_5.cut (Nat.le_refl _)
  clear ho
  clear ht hb
  go_wp2_with fail
  refine (eqIntervalS_any _ _ xs0 xs0 _ _ _ _ _ (X0_5.rd (by omega)) (Y0_5.rd (by omega)) HL0.out HL0.out (by omega) (by omega)).mono ?_
  rw [eqL_self]
  rintro e w6 ⟨rfl, hb⟩
  have ht : Below w5.heap.size w5 w6 := hb
  have z6 : w5.heap.size ≤ w6.heap.size := ht.size
  have bw6 : Below w.heap.size w w6 := bw5.trans (ht.mono bw5.size)
  have X0_6 := X0_5.below ht (Nat.le_refl _)
  have Y0_6 := Y0_5.below ht (Nat.le_refl _)
  clear X0_5 Y0_5
  clear ht hb
  go_wp2_with fail
  clear Y0_6 UY0
  go_ret
  exact ⟨rfl, bw6⟩

theorem rd_of_trod {H : Type} {enc : TypeId × Value → H} {W : World} {fuel : Nat} {c : Value} {y : DataW H × List MemPlace}
    (h : DataW.trod enc Try.prog W 0 (fun _ => true) true fuel 23 [c] = some y) : ∃ (a : Option Addr) (xs : List Int) (cap : Nat), c = .slice a xs.length cap ∧ Rd W a xs ∧ ∀ k, k < xs.length → (Lit.int .i64 (nth xs k)).wf = true := by
  rcases Go.ChangeShapes.open_ints Try.underlying23 Try.underlying3 (by kernel_rfl) h with ⟨hcs, _⟩ | ⟨x, len, cap, zs, hcs, _, hl, hm, hz, _, hcell, hwf⟩
  · simp only [List.cons.injEq, and_true] at hcs
    exact ⟨none, [], 0, hcs, ⟨by simp, fun k hk => by simp at hk⟩, fun k hk => by simp at hk⟩
  · simp only [List.cons.injEq, and_true] at hcs
    simp only [if_true] at hz
    have hlen : (zs.take len).length = len := by rw [List.length_take]; omega
    have hn : ∀ k, k < len → nth (zs.take len) k = zs.getD k 0 := by
      intro k hk
      simp only [nth, List.getD_eq_getElem?_getD, List.getElem?_take, hk, if_true]
    refine ⟨some x, zs.take len, cap, by rw [hlen]; exact hcs, ⟨by rw [hlen]; unfold maxLen at hm; omega, fun k hk => ?_⟩, fun k hk => ?_⟩
    · rw [hlen] at hk
      obtain ⟨b, off, sp⟩ := x
      have h0 := hcell 0 (by omega)
      have hsp : sp = none := by simpa [Addr.add] using World.cell?_spot h0
      subst hsp
      have hk' := hcell k (by omega)
      rw [Addr.add_lit] at hk'
      exact ⟨b, off, rfl, World.block_lt_of_cell? _ _ h0, by rw [hk', hn k hk]⟩
    · rw [hlen] at hk
      rw [hn k hk]
      have hk2 : k < zs.length := by omega
      exact hwf _ (by rw [List.getD_eq_getElem?_getD, List.getElem?_eq_getElem hk2]; exact List.getElem_mem hk2)

theorem own : ownKnob Try.prog.godebug = none := by kernel_rfl
theorem laidOut : laidOutB Try.prog = true := by kernel_rfl
theorem wf_bd {n : Int} (h : (Lit.int .i64 n).wf = true) : -9223372036854775808 ≤ n ∧ n ≤ 9223372036854775807 := by
  simp [Lit.wf, IntKind.min, IntKind.max, IntKind.bits, IntKind.signed] at h
  omega

theorem rdV_of_trod {H : Type} {enc : TypeId × Value → H} {W : World} {fuel : Nat} {a : Option Addr} {len cap : Nat} {y : DataW H × List MemPlace}
    (h : DataW.trod enc Try.prog W 0 (fun _ => true) true fuel 22 [.slice a len cap] = some y) : ∃ cs : List Int, (len ≤ 1048576 → Rd W a cs) ∧ cs.length = len * 2 ∧ len ≤ 9223372036854775807 := by
  rcases Go.Deep.open_slice_pairs Try.underlying22 Try.underlying46 (by kernel_rfl) rfl rfl (by kernel_rfl) (by kernel_rfl) h with ⟨hcs, _⟩ | ⟨x, len', cap', m, n, V0, V1, D0, D1, P0, P1, hcs, _, hl, hm, hmm, _, hi⟩
  · simp only [List.cons.injEq, and_true, Value.slice.injEq] at hcs
    obtain ⟨rfl, rfl, rfl⟩ := hcs
    exact ⟨[], fun _ => ⟨by simp, fun k hk => by simp at hk⟩, by simp, by omega⟩
  · simp only [List.cons.injEq, and_true, Value.slice.injEq] at hcs
    obtain ⟨rfl, rfl, rfl⟩ := hcs
    simp only [if_true] at hmm
    subst hmm
    have hz : ∀ i, i < len → W.cell? (x.add (i * 2)) = some (.int .i64 (Go.RowKit.intOf (V0 i))) ∧ W.cell? (x.add (i * 2 + 1)) = some (.int .i64 (Go.RowKit.intOf (V1 i))) := by
      intro i hil
      obtain ⟨c0, c1, t0, t1⟩ := hi i (by omega)
      obtain ⟨z0, e0, _, _⟩ := DataW.trod_int Try.underlying3 t0
      obtain ⟨z1, e1, _, _⟩ := DataW.trod_int Try.underlying3 t1
      simp only [List.cons.injEq, and_true] at e0 e1
      rw [c0, c1, e0, e1]
      exact ⟨rfl, rfl⟩
    refine ⟨fmap (fun j => if j % 2 = 0 then Go.RowKit.intOf (V0 (j / 2)) else Go.RowKit.intOf (V1 (j / 2))) (len * 2), fun hs => ⟨by rw [fmap_len]; omega, fun k hk => ?_⟩, fmap_len _ _, by unfold maxLen at hm; omega⟩
    rw [fmap_len] at hk
    obtain ⟨b, off, sp⟩ := x
    have h0 := (hz 0 (by omega)).1
    have hsp : sp = none := by simpa [Addr.add] using World.cell?_spot h0
    subst hsp
    refine ⟨b, off, rfl, World.block_lt_of_cell? _ _ h0, ?_⟩
    rw [fmap_nth _ hk]
    have hk2 := hz (k / 2) (by omega)
    rw [Addr.add_lit, Addr.add_lit] at hk2
    rcases (by omega : k % 2 = 0 ∨ k % 2 = 1) with e | e
    · rw [if_pos e, ← hk2.1]
      congr 2
      omega
    · rw [if_neg (by omega), ← hk2.2]
      congr 2
      omega



open Go.ChangeShapes Go.WideShapes Go.ChangeAt Go.RowKit in
set_option maxRecDepth 100000 in
theorem lifted (os : Os) (started : os.Started) (H : Type) (enc : TypeId × Value → H) :
    ReturnsInHanded {} Try.checked os 4 .any (Rows.fnExactAreLeastEndsSpec.pre6 enc Try.prog Try.f4 Rows.fnExactAreLeastEndsRow.domain false) (Rows.fnExactAreLeastEndsSpec.post enc Try.prog Try.f4 false true false false) := by
  refine returnsInHanded_of_change (C := Try.checked) own started (by kernel_rfl) Try.func4
    (ChangeSpec.witness6 (enc := enc) (C := Try.checked) false ⟨#[], #[.slice none 0 0], []⟩ 8 (by kernel_rfl) (by kernel_rfl) (by kernel_rfl) (by kernel_rfl)) ?_
  intro W base args ds gs before hval0 hW hcnd _
  have hval : ∀ (j : Nat) t v, Try.f4.params[j]? = some t → args[j]? = some v → Value.okWide Try.prog W .any base t v := hval0
  have hW' := hW
  obtain ⟨p, q, hA0, hV, rfl, hfz, hnd⟩ := hW
  have hA : DataW.TrodAll enc Try.prog W 0 (fun _ => true) true Try.f4.params.toList args.toList ds p := hA0
  rw [Try.params4] at hA hval
  obtain ⟨v0, vs0, d0, ds0, p0, q0, hargs, rfl, rfl, h0, r0⟩ := trodAll_cons hA
  obtain ⟨rfl, rfl, rfl⟩ := trodAll_nil r0
  obtain rfl : args = #[v0] := by cases args; simp_all
  obtain ⟨rfl, rfl⟩ := trodVars_none hV
  have lt0 : ∀ x ∈ p0, x.block < W.heap.size := by obtain ⟨m, hm⟩ := h0; exact DataW.trod_lt m _ _ _ hm
  obtain ⟨a0, len0, cap0, rfl⟩ := okWide_slice Try.underlying22 (hval 0 22 v0 rfl rfl)
  obtain ⟨xs0, rd0, wl0, ln0⟩ := (by obtain ⟨fu, hf⟩ := h0; simp only [Value.cells] at hf; exact rdV_of_trod hf : ∃ cs : List Int, (len0 ≤ 1048576 → Rd W a0 cs) ∧ cs.length = len0 * 2 ∧ len0 ≤ 9223372036854775807)
  clear hA0 hval0
  refine (walk a0 xs0 len0 cap0 W rd0 wl0 ln0).mono fun e W' ⟨he, bel⟩ => ?_
  subst he
  exact ⟨_, rfl, _, _, _, [], _, [], hW', trodAll_mk1 (shut_bool Try.underlying4 _), (trodAll_cons_mk (Below.trod laidOut (by kernel_rfl) (of_decide_eq_true (by kernel_rfl)) h0 bel lt0) trodAll_mk0), rfl, bel.frame _, fun h => by cases h⟩
theorem proved : Rows.FnExactAreLeastEndsSaid :=
  OpenClaim.holds_of_wide 4 Try.f4 rfl rfl rfl rfl rfl rfl rfl ⟨rfl, rfl, rfl, rfl, rfl⟩ rfl rfl rfl rfl rfl (by kernel_rfl) Try.func4 (by kernel_rfl)
    (of_decide_eq_true (by kernel_rfl)) (by unfold Func.isWrapper; first | (rw [if_pos (by decide +kernel)]; kernel_rfl) | (rw [if_neg (by decide +kernel)]; exact ⟨rfl, rfl⟩))
    (fun os started H enc _ => lifted os started H enc)

end Go.Proofs.Ytonphneolkijcaa.areLeastEnds
