/- A part of the proof of YtiodfmiielnngaaGreatTop: contracts of functions. -/
import Derived.Test.YtiodfmiielnngaaGreatRows
import Derived.WalkKit
import Derived.WalkSpells
import Derived.WalkLawsBesides
import Derived.Deep.QuietTactic
import Derived.BigQuiet
import Derived.ProofKit
import Derived.OpenShut
import Derived.ShutString
import Derived.ChangeOld
import Derived.Below
import Derived.Lib.SmallJoins
import Derived.Lib.Hide
import Derived.Shelf.Small.Bits
import Derived.Shelf.Small.Wraps
import Derived.Shelf.Strconv.Itoa0
import Derived.Shelf.Sort.Plain
import Derived.Shelf.Slices.Reverse
import Derived.Shelf.Slices.Equal
import Derived.Shelf.Slices.CompactI
import Derived.Shelf.Slices.SearchI
import Derived.Shelf.Slices.Delete
import Derived.Shelf.Slices.Cells
import Derived.Shelf.Slices.In.SortNone
import Derived.Shelf.Slices.Empties
import Derived.Shelf.Slices.Empties2
import Derived.Shelf.SlicesE.Reverse
import Derived.Shelf.SlicesE.Delete
import Derived.Sort.OwnSortedInts
import Derived.Lib.SliceRun
import Derived.Deep.RegionLaw
import Derived.Maps.AppendAt
import Derived.Deep.AppendLies
import Derived.Deep.RegionHeld3
import Derived.Lib.SlicesCompact
import Derived.Lib.RowBridge
import Derived.Shelf.Spec.SlicesInsertGrow
import Derived.Test.YtiodfmiielnngaaGreatTopP3
namespace Go.Proofs.YtiodfmiielnngaaGreat.top
open Go Go.RowKit
set_option linter.unusedVariables false
set_option linter.unusedSimpArgs false
set_option maxHeartbeats 400000
open Go.Shelf
theorem iLevels_any (n : Int) (a : Option Addr) (xs : List Int) (cap : Nat) (w : World) (hn : -9223372036854775808 ≤ n ∧ n ≤ 9223372036854775807) (hx : Rd w a xs) :
    Calls Tryz.prog 40 #[.agg #[.int .i64 n, .slice a xs.length cap]] w fun e w' => ∃ a' cap', e = .returned (.tuple #[.slice a' (levL n xs).length cap', .bool (isIv n xs)]) ∧ OwnI w' w.heap.size (.slice a' (levL n xs).length cap') (levL n xs) ∧ Below w.heap.size w w' := by
  have hx1 := hx.alloc (.cells #[.int .i64 n, .slice a xs.length cap] 31)
  obtain ⟨i0, hi, hz0, hz1, hz2⟩ := info_parts infoInt
  cases hr : isIv n xs
  · have H1 : Hid (levL n xs = []) := by simp [Hid, levL, hr]
    have HR := Lib.hid hr
    clear hr
    go_enter Tryz.func40, Tryz.ntmps40
    go_wp2_with fail
    refine (iIsInterval_any _ _ _ _ _ hn hx1).mono ?_
    rw [HR.out]
    rintro e w1 ⟨rfl, hb1⟩
    have bw1 : Below w.heap.size w w1 := Below.trans (by repeat (first | exact Below.refl _ _ | assumption | refine Below.alloc ?_ (by first | exact Nat.le_refl _ | (simp only [World.size_alloc, World.size_setCell, World.size_drew]; omega) | omega) _ | refine Below.setCell ?_ (by first | exact Nat.le_refl _ | (simp only [World.size_alloc, World.size_setCell, World.size_drew]; omega) | omega) _ | refine Below.drew ?_)) (hb1.mono (by first | (simp only [World.size_alloc, World.size_setCell, World.size_drew]; omega) | omega))
    go_wp2_with fail
    refine bodyPost_ret (v := .tuple #[.slice none 0 0, .bool false]) (by simp [results, Tryz.results40, go_sem]) rfl ?_
    exact ⟨none, 0, by rw [H1.out]; rfl, by rw [H1.out]; exact OwnI.nil _ _, bw1⟩
  · have ho := isIv_ord hr
    have hp := ord_rel ho
    have H1 : Hid (levL n xs = levs xs xs.length) := by simp [Hid, levL, hr]
    have HR := Lib.hid hr
    have HO := Lib.hid ho
    obtain rfl : n = (xs.length : Int) := hp.len.symm
    have hl10 : xs.length ≤ 10 := by have := hp.n1; omega
    clear hr ho
    go_enter Tryz.func40, Tryz.ntmps40
    go_wp2_with fail
    refine (iIsInterval_any _ _ _ _ _ hn hx1).mono ?_
    rw [HR.out, HO.out]
    rintro e w1 ⟨rfl, hb1⟩
    have A1 : Box2 w1 w.heap.size (.int .i64 (xs.length : Int)) (.slice a xs.length cap) := (Box2.new w _ _ _).below hb1
    have bw1 : Below w.heap.size w w1 := Below.trans (by repeat (first | exact Below.refl _ _ | assumption | refine Below.alloc ?_ (by first | exact Nat.le_refl _ | (simp only [World.size_alloc, World.size_setCell, World.size_drew]; omega) | omega) _ | refine Below.setCell ?_ (by first | exact Nat.le_refl _ | (simp only [World.size_alloc, World.size_setCell, World.size_drew]; omega) | omega) _ | refine Below.drew ?_)) (hb1.mono (by first | (simp only [World.size_alloc, World.size_setCell, World.size_drew]; omega) | omega))
    have ⟨zA, cA, dA⟩ := A1
    clear hb1
    go_wp2_with fail
    refine (lowerSets_any _ _ _ _ _ (hx.below bw1) hp).mono ?_
    obtain ⟨ss, hss⟩ : ∃ ss, ss = sets xs := ⟨_, rfl⟩
    have hbd : ∀ m, m < ss.length → 0 ≤ nth ss m ∧ nth ss m < 1024 := fun m hm => by rw [hss] at hm ⊢; exact setsTo_bd hl10 hm
    have hlv : ∀ i, lv xs i = ((lvTo ss ((belowTo xs (i : Int) xs.length : Nat) : Int) ss.length : Nat) : Int) := fun i => by rw [hss]; rfl
    have hsl : ss.length ≤ xs.length := by rw [hss]; exact sets_len xs
    rw [← hss]
    have HBD := Lib.hid hbd
    have HLV := Lib.hid hlv
    clear hss hbd hlv
    rintro e w2 ⟨a2, cap2, rfl, ho2, hb2⟩
    have A2 := A1.below hb2
    have bw2 := bw1.trans (hb2.mono bw1.size)
    have hrs := ho2.rd
    have zw2 : w.heap.size + 1 ≤ w2.heap.size := by have := A2.1; omega
    clear zA cA dA A1 hb2
    have ⟨zA, cA, dA⟩ := A2
    go_wp2_with (at_make; refine wpList_make_full _ rfl (.tmp 22) (.tmp 22) 24 rfl w2.heap.size 3 i0 (.int .i64 0) 1 Tryz.underlying24 hi hz0 hz1 .i64 .i64 _ _ xs.length rfl rfl rfl rfl (by rw [hz2]; omega) (by unfold maxLen; omega) (Nat.le_refl _) ?_; intro w3 hown hgrow; have A3 := A2.kept hgrow (by simp))
    have hb3 : Below w2.heap.size w2 w3 := (Below.refl _ _).grown hgrow (Nat.le_refl _) (fun k h => by cases h)
    have hown0 := made_row (lv xs) hown
    clear hown hgrow cA dA zA A2
    go_wp2_with fail
    go_loopw [26] (fun i wr => ∃ k : Nat, k ≤ xs.length ∧ i = .int .i64 k ∧ OwnI wr w2.heap.size (.slice (some ⟨w2.heap.size, 0, none⟩) xs.length xs.length) (rowF (lv xs) xs.length k) ∧ Below w2.heap.size w2 wr ∧ Box2 wr w.heap.size (.int .i64 (xs.length : Int)) (.slice a xs.length cap)) (fun i _ => xs.length - (intOf i).toNat)
    case atStart => exact ⟨0, Nat.zero_le _, rfl, hown0, hb3, A3⟩
    case round =>
      obtain ⟨k, hk, rfl, hown, hb, hA⟩ := hrel
      have ⟨zB, cB, dB⟩ := hA
      by_cases hlt : k < xs.length
      · have k0 : (0 : Int) ≤ (k : Int) := by omega
        have k1 : (k : Int) < (xs.length : Int) := by omega
        have hbt := belowTo_small xs (k : Int) (k := xs.length) hl10
        go_wp2_with fail
        refine (belowSet_any _ _ _ _ _ _ (hx.below (bw2.trans (hb.mono bw2.size))) hp k0).mono ?_
        rintro e w4 ⟨rfl, hb4⟩
        have A4 := hA.below hb4
        have b4 := hb.trans (hb4.mono hb.size)
        have o4 := hown.below hb4 (Nat.le_refl _)
        clear cB dB hb4 hown
        go_wp2_with fail
        go_loopw [34] (fun i' wi => ∃ j : Nat, j ≤ ss.length ∧ i' = .int .i64 j ∧ OwnI wi w2.heap.size (.slice (some ⟨w2.heap.size, 0, none⟩) xs.length xs.length) ((rowF (lv xs) xs.length k).set k ((lvTo ss ((belowTo xs (k : Int) xs.length : Nat) : Int) j : Nat) : Int)) ∧ Below w2.heap.size w2 wi ∧ Box2 wi w.heap.size (.int .i64 (xs.length : Int)) (.slice a xs.length cap)) (fun i _ => ss.length - (intOf i).toNat)
        case atStart => exact ⟨0, Nat.zero_le _, rfl, by rw [lvTo, show (((0 : Nat) : Nat) : Int) = 0 from rfl, rowF_zero _ hlt]; exact o4, b4, A4⟩
        case round =>
          obtain ⟨j, hj, rfl, hown, hb, hA⟩ := hrel
          by_cases hjl : j < ss.length
          · obtain ⟨b2, off2, rfl, hbl2, hc2⟩ := (hrs.below hb).cell j hjl
            have ⟨s0, s1⟩ := HBD.out j hjl
            have hle := lvTo_le ss ((belowTo xs (k : Int) xs.length : Nat) : Int) j
            cases hne : (nth ss j != ((belowTo xs (k : Int) xs.length : Nat) : Int))
            · have HN := Lib.hid (lessB_ne hne)
              go_wp2_with fail
              go_roundw
              case rel => exact ⟨j + 1, by omega, by go_num, by simp only [lvTo, HN.out]; exact hown, hb, hA⟩
              case measure => simp [intOf]; omega
            · have hsb := lessB_sub s0 s1 hbt hne
              cases hlb : lessB (nth ss j) ((belowTo xs (k : Int) xs.length : Nat) : Int)
              · rw [hlb] at hsb
                have HN := Lib.hid hlb
                clear hlb
                go_wp2_with fail
                go_roundw
                case rel => exact ⟨j + 1, by omega, by go_num, by simp only [lvTo, HN.out]; exact hown, hb, hA⟩
                case measure => simp [intOf]; omega
              · rw [hlb] at hsb
                have HN := Lib.hid hlb
                clear hlb
                obtain ⟨row, hrow⟩ : ∃ row, row = (rowF (lv xs) xs.length k).set k ((lvTo ss ((belowTo xs (k : Int) xs.length : Nat) : Int) j : Nat) : Int) := ⟨_, rfl⟩
                have hrl : row.length = xs.length := by rw [hrow, List.length_set, rowF_len _ hk]
                have hrk : nth row k = ((lvTo ss ((belowTo xs (k : Int) xs.length : Nat) : Int) j : Nat) : Int) := by rw [hrow, nth_set (by rw [rowF_len _ hk]; exact hlt), if_pos rfl]
                have hrs : ∀ y, row.set k y = (rowF (lv xs) xs.length k).set k y := by intro y; rw [hrow, List.set_set]
                rw [← hrow] at hown
                have ⟨ci, fi⟩ := hown.at' hrl.symm (i := k) (by omega)
                rw [hrk] at ci
                have hput := hown.put hrl.symm k ((lvTo ss ((belowTo xs (k : Int) xs.length : Nat) : Int) j + 1 : Nat) : Int)
                rw [hrs] at hput
                have HP := Lib.hid hput
                clear hput hrow hrl hrk hrs hown
                go_wp2_with fail
                go_roundw
                case rel =>
                  refine ⟨j + 1, by omega, by go_num, ?_, hb.setCell (p := ⟨w2.heap.size, k, none⟩) (Nat.le_refl _) _, hA.set (p := ⟨w2.heap.size, k, none⟩) _ (show w.heap.size ≠ w2.heap.size by omega)⟩
                  have := HP.out.1
                  simp only [lvTo, HN.out, if_true]
                  exact this
                case measure => simp [intOf]; omega
          · obtain rfl : j = ss.length := by omega
            have hnext : (rowF (lv xs) xs.length k).set k ((lvTo ss ((belowTo xs (k : Int) xs.length : Nat) : Int) ss.length : Nat) : Int) = rowF (lv xs) xs.length (k + 1) := by
              rw [← rowF_set _ hlt, HLV.out]
            rw [hnext] at hown
            have HN := Lib.hid hown
            clear hnext hown
            go_wp2_with fail
            go_roundw
            case rel => exact ⟨k + 1, by omega, by go_num, HN.out, hb, hA⟩
            case measure => simp [intOf]; omega
      · obtain rfl : k = xs.length := by omega
        rw [rowF_end] at hown
        go_wp2_with fail
        refine bodyPost_ret (v := .tuple #[.slice (some ⟨w2.heap.size, 0, none⟩) xs.length xs.length, .bool true]) (by simp [results, Tryz.results40, go_sem]) rfl ?_
        exact ⟨some ⟨w2.heap.size, 0, none⟩, xs.length, by rw [H1.out, levs_len], by rw [H1.out, levs_len]; exact hown.mono bw2.size, bw2.trans (hb.mono bw2.size)⟩

/-- the row while the right end of k is being found -/
def endRow (xs : List Int) (k j : Nat) : List Int := ((rowP (lv xs) (rtE xs) xs.length k).set (k * 2) (lv xs k)).set (k * 2 + 1) (rtTo 0 xs k j)
theorem endRow_len (xs : List Int) {k : Nat} (j : Nat) (h : k ≤ xs.length) : (endRow xs k j).length = xs.length * 2 := by
  rw [endRow, List.length_set, List.length_set, rowP_len _ _ h]
theorem endRow_zero (xs : List Int) {k : Nat} (h : k < xs.length) : (rowP (lv xs) (rtE xs) xs.length k).set (k * 2) (lv xs k) = endRow xs k 0 := by
  have hl := rowP_len (lv xs) (rtE xs) (Nat.le_of_lt h)
  apply nth_ext' (by rw [endRow_len xs 0 (by omega), List.length_set, hl])
  intro i hi
  rw [List.length_set, hl] at hi
  rw [endRow, nth_set' (xs := (rowP (lv xs) (rtE xs) xs.length k).set (k * 2) (lv xs k)) (by rw [List.length_set, hl]; omega)]
  by_cases e : k * 2 + 1 = i
  · subst e
    rw [if_pos rfl, nth_set' (by rw [hl]; omega), if_neg (by omega), rowP_nth _ _ (by omega) hi, if_neg (by omega)]
    rfl
  · rw [if_neg e]
theorem endRow_end (xs : List Int) {k : Nat} (h : k < xs.length) : endRow xs k xs.length = rowP (lv xs) (rtE xs) xs.length (k + 1) := rowP_next _ _ h
theorem endRow_set (xs : List Int) (k j : Nat) (y : Int) : (endRow xs k j).set (k * 2 + 1) y = ((rowP (lv xs) (rtE xs) xs.length k).set (k * 2) (lv xs k)).set (k * 2 + 1) y := by
  rw [endRow, List.set_set]
theorem endRow_nth (xs : List Int) {k : Nat} (j : Nat) (h : k < xs.length) : nth (endRow xs k j) (k * 2 + 1) = rtTo 0 xs k j := by
  rw [endRow, nth_set' (by rw [List.length_set, rowP_len _ _ (by omega)]; omega), if_pos rfl]
theorem endRow_yes {xs : List Int} {k j : Nat} (h : hasB (nth xs k) j = true) : endRow xs k (j+1) = endRow xs k j := by
  rw [endRow, endRow, rtTo, if_pos h]
theorem iEnds_any (n : Int) (a : Option Addr) (xs : List Int) (cap : Nat) (w : World) (hn : -9223372036854775808 ≤ n ∧ n ≤ 9223372036854775807) (hx : Rd w a xs) :
    Calls Tryz.prog 14 #[.agg #[.int .i64 n, .slice a xs.length cap]] w (GotV w (endN n xs) (endL n xs) (isIv n xs)) := by
  have hx1 := hx.alloc (.cells #[.int .i64 n, .slice a xs.length cap] 31)
  obtain ⟨i0, hi, hz0, hz1, hz2⟩ := info_parts infoIv
  cases hr : isIv n xs
  · have H1 : Hid (endN n xs = 0) := by simp [Hid, endN, hr]
    have H2 : Hid (endL n xs = []) := by simp [Hid, endL, hr]
    have H3 : Hid (levL n xs = []) := by simp [Hid, levL, hr]
    have HR := Lib.hid hr
    clear hr
    go_enter Tryz.func14, Tryz.ntmps14
    go_wp2_with fail
    refine (iLevels_any _ _ _ _ _ hn hx1).mono ?_
    rw [HR.out, H3.out]
    rintro e w1 ⟨a1, cap1, rfl, ho1, hb1⟩
    have bw1 : Below w.heap.size w w1 := Below.trans (by repeat (first | exact Below.refl _ _ | assumption | refine Below.alloc ?_ (by first | exact Nat.le_refl _ | (simp only [World.size_alloc, World.size_setCell, World.size_drew]; omega) | omega) _ | refine Below.setCell ?_ (by first | exact Nat.le_refl _ | (simp only [World.size_alloc, World.size_setCell, World.size_drew]; omega) | omega) _ | refine Below.drew ?_)) (hb1.mono (by first | (simp only [World.size_alloc, World.size_setCell, World.size_drew]; omega) | omega))
    clear ho1
    go_wp2_with fail
    refine bodyPost_ret (v := .tuple #[.slice none 0 0, .bool false]) (by simp [results, Tryz.results14, go_sem]) rfl ?_
    exact ⟨none, 0, by rw [H1.out], by rw [H1.out, H2.out]; exact OwnV.nil _ _, bw1⟩
  · have ho := isIv_ord hr
    have hp := ord_rel ho
    have H1 : Hid (endN n xs = xs.length) := by simp [Hid, endN, hr]
    have H2 : Hid (endL n xs = endp xs xs.length) := by simp [Hid, endL, hr]
    have H3 : Hid (levL n xs = levs xs xs.length) := by simp [Hid, levL, hr]
    have HR := Lib.hid hr
    obtain rfl : n = (xs.length : Int) := hp.len.symm
    have hl10 : xs.length ≤ 10 := by have := hp.n1; omega
    clear hr ho
    go_enter Tryz.func14, Tryz.ntmps14
    go_wp2_with fail
    refine (iLevels_any _ _ _ _ _ hn hx1).mono ?_
    rw [HR.out, H3.out, levs_len]
    rintro e w1 ⟨a1, cap1, rfl, ho1, hb1⟩
    have A1 : Box2 w1 w.heap.size (.int .i64 (xs.length : Int)) (.slice a xs.length cap) := (Box2.new w _ _ _).below hb1
    have bw1 : Below w.heap.size w w1 := Below.trans (by repeat (first | exact Below.refl _ _ | assumption | refine Below.alloc ?_ (by first | exact Nat.le_refl _ | (simp only [World.size_alloc, World.size_setCell, World.size_drew]; omega) | omega) _ | refine Below.setCell ?_ (by first | exact Nat.le_refl _ | (simp only [World.size_alloc, World.size_setCell, World.size_drew]; omega) | omega) _ | refine Below.drew ?_)) (hb1.mono (by first | (simp only [World.size_alloc, World.size_setCell, World.size_drew]; omega) | omega))
    have ⟨zA, cA, dA⟩ := A1
    have hrl : Rd w1 a1 (levs xs xs.length) := ho1.rd
    clear hb1 ho1
    go_wp2_with (at_make; refine wpList_make_full _ rfl (.tmp 19) (.tmp 19) 26 rfl w1.heap.size 65 i0 (.agg #[.int .i64 0, .int .i64 0]) 2 Tryz.underlying26 hi hz0 hz1 .i64 .i64 _ _ xs.length rfl rfl rfl rfl (by rw [hz2]; omega) (by unfold maxLen; omega) (Nat.le_refl _) ?_; intro w2 hown hgrow; have A2 := A1.kept hgrow (by simp))
    have hb2 : Below w1.heap.size w1 w2 := (Below.refl _ _).grown hgrow (Nat.le_refl _) (fun k h => by cases h)
    have hown0 := made_rowP (lv xs) (rtE xs) hown
    clear hown hgrow cA dA
    go_wp2_with fail
    go_loopw [23] (fun i wr => ∃ k : Nat, k ≤ xs.length ∧ i = .int .i64 k ∧ OwnV wr w1.heap.size (.slice (some ⟨w1.heap.size, 0, none⟩) xs.length xs.length) xs.length (rowP (lv xs) (rtE xs) xs.length k) ∧ Below w1.heap.size w1 wr ∧ Box2 wr w.heap.size (.int .i64 (xs.length : Int)) (.slice a xs.length cap)) (fun i _ => xs.length - (intOf i).toNat)
    case atStart => exact ⟨0, Nat.zero_le _, rfl, hown0, hb2, A2⟩
    case round =>
      obtain ⟨k, hk, rfl, hown, hb, hA⟩ := hrel
      by_cases hlt : k < xs.length
      · obtain ⟨b, off, rfl, hbl, hck⟩ := (hrl.below hb).cell k (by rw [levs_len]; exact hlt)
        rw [levs_nth xs hlt] at hck
        have k0 : (0 : Int) ≤ (k : Int) := by omega
        have k1 : (k : Int) < (xs.length : Int) := by omega
        have hpl := rowP_len (lv xs) (rtE xs) hk
        have ⟨c1, f1⟩ := hown.at' (i := k * 2) (by omega)
        have p1 := hown.put (k * 2) (lv xs k)
        rw [endRow_zero xs hlt] at p1
        have P1 := Lib.hid p1.1
        have A3 := hA.kept p1.2 (by simp; omega)
        have b3 := hb.setCell (p := ⟨w1.heap.size, k * 2, none⟩) (Nat.le_refl _) (.int .i64 (lv xs k))
        clear hown p1 hpl
        go_wp2_with fail
        go_loopw [35] (fun i' wi => ∃ j : Nat, j ≤ xs.length ∧ i' = .int .i64 j ∧ OwnV wi w1.heap.size (.slice (some ⟨w1.heap.size, 0, none⟩) xs.length xs.length) xs.length (endRow xs k j) ∧ Below w1.heap.size w1 wi ∧ Box2 wi w.heap.size (.int .i64 (xs.length : Int)) (.slice a xs.length cap)) (fun i _ => xs.length - (intOf i).toNat)
        case atStart => exact ⟨0, Nat.zero_le _, rfl, P1.out, b3, A3⟩
        case round =>
          obtain ⟨j, hj, rfl, hown, hb, hA⟩ := hrel
          have ⟨zB, cB, dB⟩ := hA
          by_cases hjl : j < xs.length
          · obtain ⟨b2, off2, e2, hbl2, hcj⟩ := (hrl.below hb).cell j (by rw [levs_len]; exact hjl)
            simp only [Option.some.injEq, Addr.mk.injEq, and_true] at e2
            obtain ⟨rfl, rfl⟩ := e2
            rw [levs_nth xs hjl] at hcj
            obtain ⟨b3, off3, rfl, hbl3, hc3⟩ := (hx.below (bw1.trans (hb.mono bw1.size))).cell k hlt
            have s0 := hp.pos k hlt
            have s2 : nth xs k ≤ 9223372036854775807 := by have := hp.small k hlt; omega
            have j0 : (0 : Int) ≤ (j : Int) := by omega
            have j1 : (j : Int) < (xs.length : Int) := by omega
            cases hhas : hasB (nth xs k) j
            · have hel := endRow_len xs (k := k) j hk
              have ⟨c2, f2⟩ := hown.at' (i := k * 2 + 1) (by omega)
              rw [endRow_nth xs j hlt] at c2
              have ⟨r0, r1⟩ := rtTo_bd (st := 0) (xs := xs) (i := k) (k := j) (by omega) (by omega)
              have ⟨l0, l1⟩ := lv_bd xs j
              have p2 := hown.put (k * 2 + 1) (rtTo 0 xs k (j + 1))
              rw [endRow_set] at p2
              have P2 := Lib.hid p2.1
              have A4 := hA.kept p2.2 (by simp; omega)
              have b4 := hb.setCell (p := ⟨w1.heap.size, k * 2 + 1, none⟩) (Nat.le_refl _) (.int .i64 (rtTo 0 xs k (j + 1)))
              have hmx : max (rtTo 0 xs k j) (lv xs j) = rtTo 0 xs k (j + 1) := by rw [rtTo_no hhas, maxI]; split <;> omega
              have HM := Lib.hid hmx
              clear p2 hel hown hmx
              go_wp2_with (go_at_call 41; refine (hasElement_any _ _ _ (by assumption) (by assumption) (by assumption)).mono ?_; rintro e w' ⟨rfl, rfl⟩)
              go_roundw
              case rel => rw [HM.out]; exact ⟨j + 1, by omega, by go_num, P2.out, b4, A4⟩
              case measure => simp [intOf]; omega
            · have HE := Lib.hid (endRow_yes hhas)
              go_wp2_with (go_at_call 41; refine (hasElement_any _ _ _ (by assumption) (by assumption) (by assumption)).mono ?_; rintro e w' ⟨rfl, rfl⟩)
              go_roundw
              case rel => exact ⟨j + 1, by omega, by go_num, by rw [HE.out]; exact hown, hb, hA⟩
              case measure => simp [intOf]; omega
          · obtain rfl : j = xs.length := by omega
            rw [endRow_end xs hlt] at hown
            go_wp2_with fail
            go_roundw
            case rel => exact ⟨k + 1, by omega, by go_num, hown, hb, hA⟩
            case measure => simp [intOf]; omega
      · obtain rfl : k = xs.length := by omega
        rw [rowP_end] at hown
        go_wp2_with fail
        refine bodyPost_ret (v := .tuple #[.slice (some ⟨w1.heap.size, 0, none⟩) xs.length xs.length, .bool true]) (by simp [results, Tryz.results14, go_sem]) rfl ?_
        exact ⟨some ⟨w1.heap.size, 0, none⟩, xs.length, by rw [H1.out], by rw [H1.out, H2.out]; exact hown.mono bw1.size, bw1.trans (hb.mono bw1.size)⟩

theorem ret_ib' {a a' : Int} {b b' : Bool} (h1 : a = a') (h2 : b = b') : Ending.returned (.tuple #[.int .i64 a, .bool b]) = .returned (.tuple #[.int .i64 a', .bool b']) := by rw [h1, h2]

theorem iMagnitude_any (n : Int) (a : Option Addr) (xs : List Int) (cap : Nat) (w : World) (hn : -9223372036854775808 ≤ n ∧ n ≤ 9223372036854775807) (hx : Rd w a xs) :
    Calls Tryz.prog 15 #[.agg #[.int .i64 n, .slice a xs.length cap]] w fun e w' => e = .returned (.tuple #[.int .i64 (magF n xs), .bool (isIv n xs)]) ∧ Below w.heap.size w w' := by
  have hx1 := hx.alloc (.cells #[.int .i64 n, .slice a xs.length cap] 31)
  cases hr : isIv n xs
  · have H1 : Hid (magF n xs = 0) := by simp [Hid, magF, hr]
    have HR := Lib.hid hr
    clear hr
    go_enter Tryz.func15, Tryz.ntmps15
    go_wp2_with fail
    refine (iIsInterval_any _ _ _ _ _ hn hx1).mono ?_
    rw [HR.out]
    rintro e w1 ⟨rfl, hb1⟩
    have bw1 : Below w.heap.size w w1 := Below.trans (by repeat (first | exact Below.refl _ _ | assumption | refine Below.alloc ?_ (by first | exact Nat.le_refl _ | (simp only [World.size_alloc, World.size_setCell, World.size_drew]; omega) | omega) _ | refine Below.setCell ?_ (by first | exact Nat.le_refl _ | (simp only [World.size_alloc, World.size_setCell, World.size_drew]; omega) | omega) _ | refine Below.drew ?_)) (hb1.mono (by first | (simp only [World.size_alloc, World.size_setCell, World.size_drew]; omega) | omega))
    go_wp2_with fail
    go_ret2
    exact ⟨ret_ib' H1.out.symm rfl, bw1⟩
  · have ho := isIv_ord hr
    have hp := ord_rel ho
    have hsl := sets_len xs
    have hl10 : xs.length ≤ 10 := by have := hp.len; have := hp.n1; omega
    have H1 : Hid (magF n xs = ((sets xs).length : Int)) := by rw [Hid, magF, if_pos hr]
    have HR := Lib.hid hr
    have HO := Lib.hid ho
    clear hr ho
    go_enter Tryz.func15, Tryz.ntmps15
    go_wp2_with fail
    refine (iIsInterval_any _ _ _ _ _ hn hx1).mono ?_
    rw [HR.out, HO.out]
    rintro e w1 ⟨rfl, hb1⟩
    have A1 : Box2 w1 w.heap.size (.int .i64 n) (.slice a xs.length cap) := (Box2.new w _ _ _).below hb1
    have bw1 : Below w.heap.size w w1 := Below.trans (by repeat (first | exact Below.refl _ _ | assumption | refine Below.alloc ?_ (by first | exact Nat.le_refl _ | (simp only [World.size_alloc, World.size_setCell, World.size_drew]; omega) | omega) _ | refine Below.setCell ?_ (by first | exact Nat.le_refl _ | (simp only [World.size_alloc, World.size_setCell, World.size_drew]; omega) | omega) _ | refine Below.drew ?_)) (hb1.mono (by first | (simp only [World.size_alloc, World.size_setCell, World.size_drew]; omega) | omega))
    have ⟨zA, cA, dA⟩ := A1
    clear hb1
    go_wp2_with fail
    refine (lowerSets_any _ _ _ _ _ (hx.below bw1) hp).mono ?_
    rintro e w2 ⟨a2, cap2, rfl, ho2, hb2⟩
    clear ho2
    go_wp2_with fail
    go_ret2
    exact ⟨ret_ib' H1.out.symm rfl, bw1.trans (hb2.mono bw1.size)⟩

set_option maxRecDepth 100000 in
set_option maxHeartbeats 1000000 in
theorem iMxOrd_any (n : Int) (a : Option Addr) (xs : List Int) (cap : Nat) (w : World) (hn : -9223372036854775808 ≤ n ∧ n ≤ 9223372036854775807) (hx : Rd w a xs) :
    Calls Tryz.prog 23 #[.agg #[.int .i64 n, .slice a xs.length cap]] w fun e w' => ∃ a0 c0 vl, e = .returned (.tuple #[.agg #[.slice a0 (moL n xs).length c0], .bool (isIv n xs)]) ∧ RowsP w' w.heap.size (.slice a0 (moL n xs).length c0) vl (moL n xs) ∧ Below w.heap.size w w' := by
  have hlen := hx.len
  have hV := Var1.new (w.alloc (.cells #[.int .i64 n, .slice a xs.length cap] 31)) (.slice none 0 0) 45
  have hb0 : Below w.heap.size w ((w.alloc (.cells #[.int .i64 n, .slice a xs.length cap] 31)).alloc (.cells #[.slice none 0 0] 45)) := (by repeat (first | exact Below.refl _ _ | assumption | refine Below.alloc ?_ (by first | exact Nat.le_refl _ | (simp only [World.size_alloc, World.size_setCell, World.size_drew]; omega) | omega) _ | refine Below.setCell ?_ (by first | exact Nat.le_refl _ | (simp only [World.size_alloc, World.size_setCell, World.size_drew]; omega) | omega) _ | refine Below.drew ?_))
  have hA := (Box2.new w (.int .i64 n) (.slice a xs.length cap) 31).below ((Below.refl _ _).alloc (Nat.le_refl _) (.cells #[.slice none 0 0] 45))
  rw [World.size_alloc] at hV
  have HCL := Lib.hid (fun W (h : Rd W a xs) => iEnds_any n a xs cap W hn h)
  cases hm : isIv n xs
  · have HM := Lib.hid hm
    have H1 : Hid (moL n xs = []) := by simp [Hid, moL, hm]
    clear hm
    go_enter Tryz.func23, Tryz.ntmps23
    go_wp2_with fail
    refine (HCL.out _ (hx.below hb0)).mono ?_
    rintro e w1 ⟨ag, cg, rfl, ho, hb⟩
    rw [HM.out]
    have b1 : Below w.heap.size w w1 := hb0.trans (hb.mono (by simp; omega))
    have hV1 := hV.below hb
    have ⟨⟨zV, cV⟩, fV⟩ := hV1
    clear hb hV ho
    go_wp2_with fail
    have hV2 := hV1.set (.slice none 0 0)
    have b2 := b1.setCell (p := ⟨w.heap.size + 1, 0, none⟩) (by simp) (.slice none 0 0)
    refine bodyPost_ret (v := .tuple #[.agg #[.slice none 0 0], .bool false]) (by have ⟨⟨_, q1⟩, _⟩ := hV2; simp [results, Tryz.results23, go_sem, q1]) rfl ?_
    exact ⟨none, 0, [], by rw [H1.out]; rfl, by rw [H1.out]; exact RowsP.nil _ _, b2⟩
  · have HM := Lib.hid hm
    have hp := ord_rel (isIv_ord hm)
    have h10 : xs.length ≤ 10 := by have := hp.len; have := hp.n1; omega
    have hsl := sets_len xs
    have HE : Hid (∀ k, k < xs.length → (0 ≤ lv xs k ∧ lv xs k < ((sets xs).length : Int)) ∧ (0 ≤ rtE xs k ∧ rtE xs k < ((sets xs).length : Int))) := fun k hk => ends_in hm hk
    have H1 : Hid (moL n xs = sqM (cntE xs xs.length) (sets xs).length (sets xs).length) := by rw [Hid, moL, if_pos hm]
    have H2 : Hid (magF n xs = ((sets xs).length : Int)) := by rw [Hid, magF, if_pos hm]
    have H3 : Hid (endL n xs = endp xs xs.length) := by rw [Hid, endL, if_pos hm]
    have H4 : Hid (endN n xs = xs.length) := by rw [Hid, endN, if_pos hm]
    obtain ⟨D, hD⟩ : ∃ D, D = (sets xs).length := ⟨_, rfl⟩
    rw [← hD] at hsl HE H1 H2
    have HX := Lib.hid hx
    have HN := Lib.hid hn
    clear hm hp hx hD hn
    go_enter Tryz.func23, Tryz.ntmps23
    go_wp2_with fail
    refine (HCL.out _ (HX.out.below hb0)).mono ?_
    rintro e w1 ⟨ag, cg, rfl, ho, hb⟩
    rw [HM.out]
    rw [H3.out, H4.out] at ho
    rw [H4.out]
    have b1 : Below w.heap.size w w1 := hb0.trans (hb.mono (by simp; omega))
    have hV1 := hV.below hb
    have hA1 := hA.below hb
    have ⟨zA, cA, dA⟩ := hA1
    have hz1 : w.heap.size + 2 ≤ w1.heap.size := by have := hb.size; simp at this; omega
    have HO := Lib.hid ho
    have HV1 := Lib.hid hV1
    clear hb hV hb0 HCL ho hV1 hA hA1
    go_wp2_with fail
    refine (iMagnitude_any n a xs cap _ HN.out (HX.out.below b1)).mono ?_
    rintro e w2 ⟨rfl, hb2⟩
    rw [H2.out]
    have b2 := b1.trans (hb2.mono b1.size)
    have HO2 := Lib.hid (HO.out.below hb2 (Nat.le_refl _))
    have HV2 := Lib.hid (HV1.out.below hb2)
    have hz2 : w.heap.size + 2 ≤ w2.heap.size := by have := hb2.size; omega
    clear hb2 HO HV1 cA dA
    go_wp2_with fail
    refine (zeroRows_any D _ (by omega)).mono ?_
    rintro e w3 ⟨g, vl, rfl, hro, hb3⟩
    have b3 := b2.trans (hb3.mono b2.size)
    have hbk := HO2.out.lt
    have HRO := Lib.hid (hro.mono (B' := w2.heap.size) (Nat.le_refl _))
    have HO3 := Lib.hid ((HO2.out.below hb3 (Nat.le_refl _)).rd (by omega))
    have HV3 := Lib.hid (HV2.out.below hb3)
    have hs3 := hb3.size
    have HRd : Hid (∀ W, Below w2.heap.size w2 W → Rd W ag (endp xs xs.length)) := fun W h => (HO2.out.rd (by omega)).below h
    have bb3 : Below w2.heap.size w2 w3 := hb3
    have hz : sqM (fun _ _ => 0) D D = sqM (cntE xs 0) D D := sqM_congr (fun i hi j hj => rfl)
    rw [hz] at HRO
    clear hro hb3 HO2 hbk hz
    go_wp2_with fail
    go_loopw [28] (fun i wr => ∃ k : Nat, k ≤ xs.length ∧ i = .int .i64 k ∧ RowsP wr w2.heap.size (.slice (some ⟨g, 0, none⟩) D D) vl (sqM (cntE xs k) D D) ∧ Below w2.heap.size w2 wr) (fun i _ => xs.length - (intOf i).toNat)
    case atStart => exact ⟨0, Nat.zero_le _, rfl, HRO.out, bb3⟩
    case round =>
      obtain ⟨k, hk, rfl, hro, hb⟩ := hrel
      have hbs := hb.size
      have HRO := Lib.hid hro
      by_cases hlt : k < xs.length
      · have k1 : (k : Int) < (xs.length : Int) := by omega
        obtain ⟨b5, off5, rfl, hb5, hcl, hcr⟩ := (HRd.out wr hb).pair (prs_len _ _ _) hlt
        rw [endp, prs_lft _ _ hlt] at hcl
        rw [endp, prs_rgt _ _ hlt] at hcr
        have ⟨⟨l0, l1⟩, ⟨r0, r1⟩⟩ := HE.out k hlt
        obtain ⟨L, hL⟩ := Int.eq_ofNat_of_zero_le l0
        obtain ⟨R, hR⟩ := Int.eq_ofNat_of_zero_le r0
        have HST : Hid (L < D → R < D → setM (sqM (cntE xs k) D D) L R (cntE xs k L R + 1) = sqM (cntE xs (k+1)) D D) := fun h1 h2 => cntE_step hL hR h1 h2
        rw [hL] at l0 l1 hcl
        rw [hR] at r0 r1 hcr
        have hLd : L < D := by omega
        have hRd : R < D := by omega
        clear hL hR
        obtain ⟨g4, e4, hg4, hg5, hc4, hf4⟩ := hro.outer (k := L) (by rw [sqM_len]; exact hLd)
        simp only [Option.some.injEq, Addr.mk.injEq, and_true] at e4
        subst e4
        obtain ⟨g6, c6, e6, hg6, hg7, hc6, hf6, hnew⟩ := hro.num (i := L) (j := R) (by rw [sqM_len]; exact hLd) (by rw [sqM_rlen hLd]; exact hRd)
        rw [e6, sqM_rlen hLd] at hc4
        rw [sqM_at hLd hRd] at hc6
        have hn2 := hnew (cntE xs k L R + 1)
        rw [HST.out hLd hRd] at hn2
        have ⟨hb1, hb2⟩ := cntE_bd xs L R k
        obtain ⟨Z, hZ⟩ : ∃ Z, Z = cntE xs k L R := ⟨_, rfl⟩
        rw [← hZ] at hc6 hn2 hb1 hb2
        have hal : Below w2.heap.size w2 ((wr.setCell ⟨g6, R, none⟩ (.int .i64 (Z + 1))).alloc (.cells #[.int .i64 (L : Int), .int .i64 (R : Int)] 65)) := (hb.setCell (p := ⟨g6, R, none⟩) hg6 _).alloc (by simpa using hbs) _
        have hn3 := hn2.below ((Below.refl _ _).alloc (Nat.le_refl _) (.cells #[.int .i64 (L : Int), .int .i64 (R : Int)] 65)) (Nat.le_refl _)
        have HN3 := Lib.hid hn3
        clear hro hnew hn2 hn3 e6 hZ
        go_wp2_with fail
        go_region
        all_goals
          go_wp2_with fail
          go_roundw
          case rel =>
            refine ⟨k + 1, by omega, by go_num, ?_, ?_⟩
            · first
              | exact HN3.out
              | exact HN3.out.below (Below.refl _ _).drew (Nat.le_refl _)
            · first
              | exact hal
              | exact hal.drew
          case measure => simp [intOf]; omega
      · obtain rfl : k = xs.length := by omega
        have hV := HV2.out.below hb
        have ⟨⟨zV, cV⟩, fV⟩ := hV
        have HV1 := Lib.hid hV
        have bw := b2.trans (hb.mono (by omega))
        clear hro hV
        go_wp2_with fail
        have hV2 := HV1.out.set (.slice (some ⟨g, 0, none⟩) D D)
        have b2 := bw.setCell (p := ⟨w.heap.size + 1, 0, none⟩) (by simp) (.slice (some ⟨g, 0, none⟩) D D)
        refine bodyPost_ret (v := .tuple #[.agg #[.slice (some ⟨g, 0, none⟩) D D], .bool true]) (by have ⟨⟨_, q1⟩, _⟩ := hV2; simp [results, Tryz.results23, go_sem, q1]) rfl ?_
        exact ⟨_, D, vl, by rw [H1.out, sqM_len], by rw [H1.out, sqM_len]; exact (HRO.out.setBelow (show w.heap.size + 1 < w2.heap.size by omega) _).mono (by omega), b2⟩

/-- a row in a new block with room behind it -/
theorem ownsRow_alloc (w : World) (cs : Array Value) (e : TypeId) (n c B : Nat) (hB : B ≤ w.heap.size) (hn : n ≤ c) (hc : c ≤ maxLen) (hs : cs.size = c) :
    (w.alloc (.cells cs e)).ownsRow B e 1 (.slice (some ⟨w.heap.size, 0, none⟩) n c) n (cs.toList.take n) :=
  ⟨by rw [List.length_take, Array.length_toList]; omega, .inr ⟨w.heap.size, c, cs, rfl, hB, heap_alloc_new w _, hn, hc, by omega, by rw [Nat.mul_one]⟩⟩
/-- the same row with one spare cell more -/
theorem ownsRow_wide {w : World} {B g n c : Nat} {t : TypeId} {xs : List Value} (h : w.ownsRow B t 1 (.slice (some ⟨g, 0, none⟩) n c) n xs) (hc : n + 1 ≤ c) :
    ∃ z, w.ownsRow B t 1 (.slice (some ⟨g, 0, none⟩) (n + 1) c) (n + 1) (xs ++ [z]) := by
  have hl := h.1
  rcases h.2 with ⟨e0, _⟩ | ⟨g', cap', cur, e0, hbase, hb, h1, h2, h3, h4⟩
  · cases e0
  · simp only [Value.slice.injEq, Option.some.injEq, Addr.mk.injEq, and_true] at e0
    obtain ⟨rfl, -, rfl⟩ := e0
    rw [Nat.mul_one] at h4 hl h3
    have hlt : n < cur.toList.length := by rw [Array.length_toList]; omega
    refine ⟨cur.toList[n], by rw [List.length_append, List.length_singleton]; omega, .inr ⟨g, c, cur, rfl, hbase, hb, hc, h2, by omega, ?_⟩⟩
    rw [Nat.mul_one, List.take_succ_eq_append_getElem hlt, h4]
/-- what Insert says of one value -/
def InsG (w w' : World) (B g n : Nat) (t : TypeId) (xs : List Value) (x : Nat) (u : Value) (e : Ending) : Prop :=
  ∃ g' c', e = .returned (.slice (some ⟨g', 0, none⟩) (n + 1) c') ∧ w'.ownsRow B t 1 (.slice (some ⟨g', 0, none⟩) (n + 1) c') (n + 1) (xs.take x ++ [u] ++ xs.drop x) ∧ w.grownBy w' (some g) ∧ (g' = g ∨ w.heap.size ≤ g')
theorem InsG.shift {w : World} {B g n c x : Nat} {t : TypeId} {xs : List Value} {u : Value} (h : w.ownsRow B t 1 (.slice (some ⟨g, 0, none⟩) n c) n xs) (hx : x < n) (hc : n + 1 ≤ c) :
    InsG w ((w.drew.setCells g (0 + (x + 1)) (xs.drop x)).setCells g (0 + x) [u]) B g n t xs x u (.returned (.slice (some ⟨g, 0, none⟩) (n + 1) c)) := by
  have hl : xs.length = n := by have := h.1; omega
  rw [Nat.zero_add, Nat.zero_add]
  have ⟨z, h1⟩ := ownsRow_wide h hc
  have h2 : w.drew.ownsRow B t 1 (.slice (some ⟨g, 0, none⟩) (n + 1) c) (n + 1) (xs ++ [z]) := ownsRow_bel h1 (Below.refl _ _).drew (Nat.le_refl _)
  have hdl : (xs.drop x).length = n - x := by rw [List.length_drop, hl]
  have ⟨h3, g3⟩ := ownsRow_cells (vs := xs.drop x) (o := x + 1) (by omega) h2
  have ⟨h4, g4⟩ := ownsRow_cells (vs := [u]) (o := x) (by rw [List.length_singleton]; omega) h3
  refine ⟨g, c, rfl, ?_, grown_trans (grown_trans (below_grown (Below.refl _ _).drew (Nat.le_refl _) _) g3) g4, .inl rfl⟩
  have e0 : ((xs ++ [z]).take (x+1)).length = x + 1 := by rw [List.length_take, List.length_append, List.length_singleton]; omega
  have e1 : (((xs ++ [z]).take (x+1) ++ xs.drop x ++ (xs ++ [z]).drop (x + 1 + (xs.drop x).length)).take x ++ [u] ++ ((xs ++ [z]).take (x+1) ++ xs.drop x ++ (xs ++ [z]).drop (x + 1 + (xs.drop x).length)).drop (x + [u].length)) = xs.take x ++ [u] ++ xs.drop x := by
    rw [hdl, List.drop_eq_nil_of_le (i := x + 1 + (n - x)) (by rw [List.length_append, List.length_singleton]; omega), List.append_nil, List.length_singleton]
    rw [List.take_append_of_le_length (by omega), List.take_take, show min x (x+1) = x by omega, List.take_append_of_le_length (by omega), List.drop_left' e0]
  rw [e1] at h4
  exact h4
theorem InsG.room {w : World} {B g n c : Nat} {t : TypeId} {xs : List Value} {u : Value} (h : w.ownsRow B t 1 (.slice (some ⟨g, 0, none⟩) n c) n xs) (hc : n + 1 ≤ c) :
    InsG w (w.setCells g (0 + n) [u]) B g n t xs n u (.returned (.slice (some ⟨g, 0, none⟩) (n + 1) c)) := by
  have hl : xs.length = n := by have := h.1; omega
  rw [Nat.zero_add]
  have ⟨z, h1⟩ := ownsRow_wide h hc
  have ⟨h4, g4⟩ := ownsRow_cells (vs := [u]) (o := n) (by rw [List.length_singleton]; omega) h1
  refine ⟨g, c, rfl, ?_, g4, .inl rfl⟩
  rw [List.length_singleton, List.drop_eq_nil_of_le (i := n + 1) (by rw [List.length_append, List.length_singleton]; omega), List.append_nil, List.take_append_of_le_length (by omega)] at h4
  rw [List.drop_eq_nil_of_le (i := n) (by omega), List.append_nil]
  exact h4
theorem InsG.endNew {w : World} {B g n c : Nat} {t : TypeId} {xs : List Value} {u : Value} {zs : Array Value} (hl : xs.length = n) (hB : B ≤ w.heap.size) (hc : n + 1 ≤ c) (hc2 : c ≤ maxLen) (hz : zs.size = c - (n + 1)) :
    InsG w (w.drew.alloc (.cells ((xs ++ [u]).toArray ++ zs) t)) B g n t xs n u (.returned (.slice (some ⟨w.heap.size, 0, none⟩) (n + 1) c)) := by
  have h1 := ownsRow_alloc w.drew ((xs ++ [u]).toArray ++ zs) t (n + 1) c B hB hc hc2 (by rw [Array.size_append, List.size_toArray, List.length_append, List.length_singleton]; omega)
  refine ⟨w.heap.size, c, rfl, ?_, below_grown ((Below.refl _ _).drew.alloc (Nat.le_refl _) _) (Nat.le_refl _) _, .inr (Nat.le_refl _)⟩
  have e1 : ((xs ++ [u]).toArray ++ zs).toList.take (n + 1) = xs.take n ++ [u] ++ xs.drop n := by
    rw [Array.toList_append, List.take_append_of_le_length (by rw [List.length_append, List.length_singleton]; omega), List.take_of_length_le (by rw [List.length_append, List.length_singleton]; omega), List.drop_eq_nil_of_le (i := n) (by omega), List.append_nil, List.take_of_length_le (i := n) (by omega)]
  rw [e1] at h1
  exact h1
theorem InsG.grow {w : World} {B g n c x : Nat} {t : TypeId} {xs : List Value} {u : Value} {ys zs : Array Value} (hl : xs.length = n) (hB : B ≤ w.heap.size) (hx : x < n) (hc : n + 1 ≤ c) (hc2 : c ≤ maxLen) (hy : ys.size = n + 1 - x) (hz : zs.size = c - (n + 1)) :
    InsG w (((w.alloc (.cells ((xs.take x).toArray ++ ys ++ zs) t)).drew.setCells w.heap.size x [u]).drew.setCells w.heap.size (x + 1) (xs.drop x)) B g n t xs x u (.returned (.slice (some ⟨w.heap.size, 0, none⟩) (n + 1) c)) := by
  have h1 := ownsRow_alloc w ((xs.take x).toArray ++ ys ++ zs) t (n + 1) c B hB hc hc2 (by rw [Array.size_append, Array.size_append, List.size_toArray, List.length_take]; omega)
  have h2 := ownsRow_bel h1 (Below.refl _ _).drew (Nat.le_refl _)
  have ⟨h3, g3⟩ := ownsRow_cells (vs := [u]) (o := x) (by rw [List.length_singleton]; omega) h2
  have h4 := ownsRow_bel h3 (Below.refl _ _).drew (Nat.le_refl _)
  have ⟨h5, g5⟩ := ownsRow_cells (vs := xs.drop x) (o := x + 1) (by rw [List.length_drop]; omega) h4
  have b1 : Below w.heap.size w ((w.alloc (.cells ((xs.take x).toArray ++ ys ++ zs) t)).drew) := ((Below.refl _ _).alloc (Nat.le_refl _) _).drew
  have b2 := b1.trans (grown_below g3 w.heap.size (Nat.le_refl _) b1.size)
  have b3 := b2.trans ((Below.refl w.heap.size _).drew)
  have b4 := b3.trans (grown_below g5 w.heap.size (Nat.le_refl _) b3.size)
  refine ⟨w.heap.size, c, rfl, ?_, below_grown b4 (Nat.le_refl _) _, .inr (Nat.le_refl _)⟩
  generalize hL : ((xs.take x).toArray ++ ys ++ zs).toList.take (n + 1) = L at h5
  have hLl : L.length = n + 1 := by rw [← hL, List.length_take, Array.length_toList, Array.size_append, Array.size_append, List.size_toArray, List.length_take]; omega
  have hLx : L.take x = xs.take x := by
    rw [← hL, List.take_take, show min x (n+1) = x by omega, Array.toList_append, Array.toList_append, List.append_assoc, List.take_append_of_le_length (by rw [List.length_take]; omega), List.take_of_length_le (by rw [List.length_take]; omega)]
  have e0 : (L.take x ++ [u]).length = x + 1 := by rw [List.length_append, List.length_take, List.length_singleton]; omega
  have e1 : (L.take x ++ [u] ++ L.drop (x + [u].length)).take (x + 1) ++ xs.drop x ++ (L.take x ++ [u] ++ L.drop (x + [u].length)).drop (x + 1 + (xs.drop x).length) = xs.take x ++ [u] ++ xs.drop x := by
    rw [List.take_left' e0, List.drop_eq_nil_of_le (i := x + 1 + (xs.drop x).length) (by rw [List.length_append, e0, List.length_drop, List.length_drop, List.length_singleton]; omega), List.append_nil, hLx]
  rw [e1] at h5
  exact h5

/-- a row of the rows has grown, and may lie in a new block -/
theorem RowsP.growRow {w w2 : World} {B : Nat} {v u : Value} {vl : List Value} {xss : List (List Int)} {r : List Int} (h : RowsP w B v vl xss) {k : Nat} (hk : k < xss.length) (hg : w.grownBy w2 (valAt vl k).ownBlock) (hu : OwnI w2 B u r) (hub : ∀ c, u.ownBlock = some c → (valAt vl k).ownBlock = some c ∨ w.heap.size ≤ c) :
    ∃ g c, v = .slice (some ⟨g, 0, none⟩) xss.length c ∧ B ≤ g ∧ g < w2.heap.size ∧ (∃ z, w2.cell? ⟨g, k, none⟩ = some z) ∧ w2.frozen? ⟨g, k, none⟩ = false ∧ RowsP (w2.setCell ⟨g, k, none⟩ u) B v (vl.set k u) (xss.set k r) := by
  have hl := h.o.vlen
  have ⟨bv, br⟩ := h.blk
  have n1 : ∀ c, u.ownBlock = some c → v.ownBlock ≠ some c := fun c hc h2 => by
    rcases hub c hc with h3 | h3
    · exact h.o.apart k hk c h3 h2
    · have := bv c h2; omega
  have n2 : ∀ j, j < xss.length → j ≠ k → ∀ c, u.ownBlock = some c → (valAt vl j).ownBlock ≠ some c := fun j hj hjk c hc h2 => by
    rcases hub c hc with h3 | h3
    · rcases Nat.lt_or_gt_of_ne hjk with h6 | h6
      · exact h.pair j k h6 hk c h2 h3
      · exact h.pair k j h6 hj c h3 h2
    · have := br j hj c h2; omega
  have hout : w2.ownsRow B 24 1 v xss.length vl := World.ownsRow.kept h.o.own hg (own_ne (fun c h1 h2 => h.o.apart k hk c h2 h1))
  rcases h.o.own.2 with ⟨e, h0⟩ | ⟨g, cap3, cur, e, hb, hgg, _⟩
  · omega
  · subst e
    have h1 := World.ownsRow.cellAt hout k (by omega)
    have hgr := grown_set w2 ⟨g, k, none⟩ u
    have hval : ∀ j, valAt (vl.set k u) j = if j = k then u else valAt vl j := by
      intro j
      simp only [valAt, List.getD_eq_getElem?_getD, List.getElem?_set]
      by_cases e : k = j
      · subst e; simp [show k < vl.length by omega]
      · simp [e, Ne.symm e]
    have hrow : ∀ j, j < xss.length → rowL (xss.set k r) j = if j = k then r else rowL xss j := by
      intro j hj
      simp only [rowL, List.getD_eq_getElem?_getD, List.getElem?_set]
      by_cases e : k = j
      · subst e; simp [hk]
      · simp [e, Ne.symm e]
    refine ⟨g, cap3, rfl, hb, (World.ownsRow.lt hout g rfl).2, ⟨_, by rw [h1, valAt_get (by omega)]⟩, World.ownsRow.frozenAt hout k, ⟨⟨?_, fun j hj => ?_, fun j hj c hc => ?_⟩, fun i j hij hj c hc => ?_⟩⟩
    · rw [List.length_set]
      exact (World.ownsRow.stored hout k u).1
    · rw [List.length_set] at hj
      rw [hval, hrow j hj]
      by_cases e : j = k
      · rw [if_pos e, if_pos e]
        exact hu.kept hgr (own_nb (fun c h1 h2 => n1 c h1 (by rw [h2]; rfl)))
      · rw [if_neg e, if_neg e]
        have h3 : OwnI w2 B (valAt vl j) (rowL xss j) := (h.o.row j hj).kept hg (own_ne (fun c h4 h5 => by
          rcases Nat.lt_or_gt_of_ne e with h6 | h6
          · exact h.pair j k h6 hk c h4 h5
          · exact h.pair k j h6 hj c h5 h4))
        exact h3.kept hgr (own_nb (fun c h1 h2 => h.o.apart j hj c h1 (by rw [h2]; rfl)))
    · rw [List.length_set] at hj
      rw [hval] at hc
      by_cases e : j = k
      · rw [if_pos e] at hc; exact n1 c hc
      · rw [if_neg e] at hc; exact h.o.apart j hj c hc
    · rw [List.length_set] at hj
      rw [hval] at hc ⊢
      by_cases e : j = k
      · rw [if_pos e]
        rw [if_neg (by omega)] at hc
        exact fun h2 => n2 i (by omega) (by omega) c h2 hc
      · rw [if_neg e]
        by_cases e2 : i = k
        · rw [if_pos e2] at hc
          exact n2 j hj e c hc
        · rw [if_neg e2] at hc
          exact h.pair i j hij hj c hc

/-- one row more among the rows -/
theorem RowsP.ins {w w' : World} {B C g n c g' c' x : Nat} {vl : List Value} {u : Value} {f : Nat → Nat → Int} {m : Nat} (h : RowsP w B (.slice (some ⟨g, 0, none⟩) n c) vl (sqM f n m)) (hx : x ≤ n) (hu : OwnI w C u (fmap (fun _ => 0) m)) (hBC : B ≤ C) (hgC : g < C) (hrC : ∀ k, k < n → ∀ c, (valAt vl k).ownBlock = some c → c < C)
    (ho : w'.ownsRow B 24 1 (.slice (some ⟨g', 0, none⟩) (n + 1) c') (n + 1) (vl.take x ++ [u] ++ vl.drop x)) (hg : w.grownBy w' (some g)) (hg' : g' = g ∨ w.heap.size ≤ g') :
    RowsP w' B (.slice (some ⟨g', 0, none⟩) (n + 1) c') (vl.take x ++ [u] ++ vl.drop x) (sqM (inR f x) (n + 1) m) := by
  have hl := h.o.vlen
  rw [sqM_len] at hl
  have htl : (vl.take x).length = x := by rw [List.length_take]; omega
  have hv : ∀ k, k < n + 1 → valAt (vl.take x ++ [u] ++ vl.drop x) k = if k < x then valAt vl k else if k = x then u else valAt vl (k-1) := fun k hk => by
    rw [valAt, List.getD_eq_getElem?_getD]
    by_cases e : k < x
    · rw [if_pos e, List.append_assoc, List.getElem?_append_left (by omega), List.getElem?_take, if_pos e, valAt, List.getD_eq_getElem?_getD]
    · rw [if_neg e]
      by_cases e2 : k = x
      · rw [if_pos e2, List.getElem?_append_left (by rw [List.length_append, htl, List.length_singleton]; omega), List.getElem?_append_right (by omega), htl, e2, Nat.sub_self]; rfl
      · rw [if_neg e2, List.getElem?_append_right (by rw [List.length_append, htl, List.length_singleton]; omega), List.length_append, htl, List.length_singleton, List.getElem?_drop, show x + (k - (x + 1)) = k - 1 by omega, valAt, List.getD_eq_getElem?_getD]
  have hul := hu.lt
  have hrow : ∀ k, k < n → OwnI w B (valAt vl k) (fmap (f k) m) := fun k hk => by
    have h1 := h.o.row k (by rw [sqM_len]; exact hk)
    rw [sqM_row hk] at h1
    exact h1
  have hap : ∀ k, k < n → ∀ c, (valAt vl k).ownBlock = some c → c ≠ g := fun k hk c hc h9 => h.o.apart k (by rw [sqM_len]; exact hk) c hc (by rw [h9]; rfl)
  have hlt : ∀ k, k < n → ∀ c, (valAt vl k).ownBlock = some c → c < w.heap.size := fun k hk c hc => ((hrow k hk).lt c hc).2
  have hpr : ∀ j k, j < k → k < n → ∀ c, (valAt vl j).ownBlock = some c → (valAt vl k).ownBlock ≠ some c := fun j k hjk hk c hc => h.pair j k hjk (by rw [sqM_len]; exact hk) c hc
  refine ⟨⟨by rw [sqM_len]; exact ho, fun k hk => ?_, fun k hk c hc hc2 => ?_⟩, fun j k hjk hk c hc => ?_⟩
  · rw [sqM_len] at hk
    rw [hv k hk, sqM_row hk]
    by_cases e : k < x
    · rw [if_pos e, fmap_ext (f := inR f x k) (g := f k) (fun b hb => by rw [inR, if_pos e])]
      exact (hrow k (by omega)).kept hg (own_nb (fun c h2 => hap k (by omega) c h2))
    · rw [if_neg e]
      by_cases e2 : k = x
      · rw [if_pos e2, fmap_ext (f := inR f x k) (g := fun _ => 0) (fun b hb => by rw [inR, if_neg e, if_pos e2])]
        exact (hu.mono hBC).kept hg (own_nb (fun c h2 h3 => by have := (hul c h2).1; omega))
      · rw [if_neg e2, fmap_ext (f := inR f x k) (g := f (k-1)) (fun b hb => by rw [inR, if_neg e, if_neg e2])]
        exact (hrow (k-1) (by omega)).kept hg (own_nb (fun c h2 => hap (k-1) (by omega) c h2))
  · rw [sqM_len] at hk
    rw [hv k hk] at hc
    have hcg : c = g' := by simpa [Value.ownBlock] using hc2.symm
    have key : c < w.heap.size ∧ c ≠ g := by
      by_cases e : k < x
      · rw [if_pos e] at hc; exact ⟨hlt k (by omega) c hc, hap k (by omega) c hc⟩
      · rw [if_neg e] at hc
        by_cases e2 : k = x
        · rw [if_pos e2] at hc; have := hul c hc; exact ⟨this.2, by omega⟩
        · rw [if_neg e2] at hc; exact ⟨hlt (k-1) (by omega) c hc, hap (k-1) (by omega) c hc⟩
    rcases hg' with h9 | h9
    · exact key.2 (by omega)
    · have := key.1; omega
  · rw [sqM_len] at hk
    rw [hv j (by omega)] at hc
    rw [hv k hk]
    by_cases e1 : j < x
    · rw [if_pos e1] at hc
      by_cases e2 : k < x
      · rw [if_pos e2]; exact hpr j k hjk (by omega) c hc
      · rw [if_neg e2]
        by_cases e3 : k = x
        · rw [if_pos e3]; intro h9; have := (hul c h9).1; have := hrC j (by omega) c hc; omega
        · rw [if_neg e3]; exact hpr j (k-1) (by omega) (by omega) c hc
    · rw [if_neg e1] at hc
      rw [if_neg (show ¬ k < x by omega), if_neg (show ¬ k = x by omega)]
      by_cases e3 : j = x
      · rw [if_pos e3] at hc; intro h9; have := (hul c hc).1; have := hrC (k-1) (by omega) c h9; omega
      · rw [if_neg e3] at hc; exact hpr (j-1) (k-1) (by omega) (by omega) c hc
/-- the rows while a column is put in, the first k being done -/
def ptM (f : Nat → Nat → Int) (n x k : Nat) : List (List Int) := (List.range (n+1)).map fun a => if a < k then fmap (wdF (f a) x) (n + 1) else fmap (f a) n
theorem ptM_len (f : Nat → Nat → Int) (n x k : Nat) : (ptM f n x k).length = n + 1 := by simp [ptM]
theorem ptM_row {f : Nat → Nat → Int} {n x k a : Nat} (h : a < n + 1) : rowL (ptM f n x k) a = if a < k then fmap (wdF (f a) x) (n + 1) else fmap (f a) n := by simp [ptM, rowL, h]
theorem ptM_zero {f : Nat → Nat → Int} {n x : Nat} : ptM f n x 0 = sqM f (n + 1) n := by
  refine rows_ext (by rw [ptM_len, sqM_len]) (fun i hi => ?_)
  rw [ptM_len] at hi
  rw [ptM_row hi, sqM_row hi, if_neg (by omega)]
theorem ptM_end {f : Nat → Nat → Int} {n x : Nat} : ptM f n x (n+1) = sqM (fun a b => wdF (f a) x b) (n + 1) (n + 1) := by
  refine rows_ext (by rw [ptM_len, sqM_len]) (fun i hi => ?_)
  rw [ptM_len] at hi
  rw [ptM_row hi, sqM_row hi, if_pos hi]
theorem ptM_step {f : Nat → Nat → Int} {n x k : Nat} (hk : k < n + 1) (hx : x ≤ n) : (ptM f n x k).set k ((rowL (ptM f n x k) k).take x ++ [0] ++ (rowL (ptM f n x k) k).drop x) = ptM f n x (k+1) := by
  refine rows_ext (by rw [List.length_set, ptM_len, ptM_len]) (fun i hi => ?_)
  rw [List.length_set, ptM_len] at hi
  have : ∀ r, rowL ((ptM f n x k).set k r) i = if i = k then r else rowL (ptM f n x k) i := by
    intro r
    simp only [rowL, List.getD_eq_getElem?_getD, List.getElem?_set]
    by_cases e : k = i
    · subst e; simp [ptM_len, hk]
    · simp [e, Ne.symm e]
  rw [this, ptM_row hi, ptM_row hk, if_neg (Nat.lt_irrefl k), fmap_ins hx]
  by_cases e : i = k
  · subst e
    rw [if_pos rfl, ptM_row hi, if_pos (by omega)]
  · rw [if_neg e, ptM_row hi]
    by_cases h : i < k
    · rw [if_pos h, if_pos (by omega)]
    · rw [if_neg h, if_neg (by omega)]

def insRen : Go.Shelf.Ren := ⟨fun | 21 => 115 | 27 => 139 | 28 => 140 | 35 => 149 | 39 => 152 | n => n, fun | 22 => 24 | 3 => 3 | 4 => 4 | 0 => 0 | n => n, fun | n => n⟩
theorem laysIns : Go.Proofs.Lays2.n21 Tryz.prog insRen := {
  mixed := by kernel_rfl
  f21 := Tryz.func115.trans (congrArg some (by kernel_rfl))
  f27 := Tryz.func139.trans (congrArg some (by kernel_rfl))
  f28 := Tryz.func140.trans (congrArg some (by kernel_rfl))
  f35 := Tryz.func149.trans (congrArg some (by kernel_rfl))
  f39 := Tryz.func152.trans (congrArg some (by kernel_rfl))
  t0 := Tryz.underlying0
  a0 := Tryz.isAgg0
  z0 := Tryz.sizeOf0
  v0 := Tryz.zeroValue0
  t3 := Tryz.underlying3
  a3 := Tryz.isAgg3
  z3 := Tryz.sizeOf3
  v3 := Tryz.zeroValue3
  t4 := Tryz.underlying4
  a4 := Tryz.isAgg4
  z4 := Tryz.sizeOf4
  v4 := Tryz.zeroValue4
  t22 := Tryz.underlying24
  a22 := Tryz.isAgg24
  z22 := Tryz.sizeOf24
  v22 := Tryz.zeroValue24
  i3 := by kernel_rfl }

set_option maxRecDepth 100000 in
/-- one number put in -/
theorem insOwnS (g cap x vb : Nat) (B : Nat) (xs : List Int) (w : World) (ho : OwnI w B (.slice (some ⟨g, 0, none⟩) xs.length cap) xs) (hx : x ≤ xs.length) (hn : xs.length ≤ 1000) (hB : B ≤ w.heap.size) (u : Int) (hvb : vb ≠ g) (hv : w.heap[vb]? = some (.cells #[.int .i64 u] 3 (0, 0))) :
    Calls Tryz.prog 115 #[.slice (some ⟨g, 0, none⟩) xs.length cap, .int .i64 (x : Int), .slice (some ⟨vb, 0, none⟩) 1 1] w fun e w' => ∃ g' c', e = .returned (.slice (some ⟨g', 0, none⟩) (xs.length + 1) c') ∧ OwnI w' B (.slice (some ⟨g', 0, none⟩) (xs.length + 1) c') (xs.take x ++ [u] ++ xs.drop x) ∧ w.grownBy w' (some g) ∧ (g' = g ∨ w.heap.size ≤ g') := by
  have hcap := ho.capLe
  have hcm : cap ≤ maxLen := by
    rcases ho.2 with ⟨e0, _⟩ | ⟨g9, cap9, cur9, e0, _, _, _, h2, _⟩
    · cases e0
    · simp only [Value.slice.injEq] at e0
      rw [e0.2.2]; exact h2
  have key : ∀ e w', InsG w w' B g xs.length 3 (xs.map (Value.int .i64)) x (.int .i64 u) e → ∃ g' c', e = .returned (.slice (some ⟨g', 0, none⟩) (xs.length + 1) c') ∧ OwnI w' B (.slice (some ⟨g', 0, none⟩) (xs.length + 1) c') (xs.take x ++ [u] ++ xs.drop x) ∧ w.grownBy w' (some g) ∧ (g' = g ∨ w.heap.size ≤ g') := by
    rintro e w' ⟨g', c', e1, h1, h2, h3⟩
    refine ⟨g', c', e1, ?_, h2, h3⟩
    have hl : (xs.take x ++ [u] ++ xs.drop x).length = xs.length + 1 := by rw [List.length_append, List.length_append, List.length_take, List.length_drop, List.length_singleton]; omega
    unfold OwnI
    rw [hl, List.map_append, List.map_append, List.map_take, List.map_drop]
    exact h1
  have hfr : ∀ k, w.frozen? ⟨vb, k, none⟩ = false := fun k => by simp [World.frozen?, hv]
  have hvc : ∀ j v, ([Value.int .i64 u] : List Value)[j]? = some v → w.cell? ⟨vb, 0 + j, none⟩ = some v := fun j v hj => by
    obtain ⟨hlt, e⟩ := List.getElem?_eq_some_iff.1 hj
    obtain rfl : j = 0 := by simpa using hlt
    rw [cell_of_row w vb (0+0) _ _ (0, 0) hv]
    simpa using e
  have h1v : ∀ v ∈ ([Value.int .i64 u] : List Value), v.oneCell' = true := fun v hv => by simp at hv; subst hv; rfl
  have h1c : ∀ v ∈ xs.map (Value.int .i64), v.oneCell' = true := fun v hv => by
    obtain ⟨t, _, rfl⟩ := List.mem_map.1 hv
    rfl
  have hml : (xs.map (Value.int .i64)).length = xs.length := List.length_map _
  have hcs : ∀ j v, (xs.map (Value.int .i64))[j]? = some v → w.cell? ⟨g, 0 + j, none⟩ = some v := fun j v hj => by
    have := (List.getElem?_eq_some_iff.1 hj).1
    rw [Nat.zero_add, World.ownsRow.cellAt ho j (by omega)]; exact hj
  by_cases hr : xs.length + 1 ≤ cap
  · have ⟨z, hw⟩ := ownsRow_wide ho hr
    have hsp : ∀ j, j < xs.length + 1 → (w.cell? ⟨g, 0 + j, none⟩).isSome = true := fun j hj => by
      rw [Nat.zero_add, World.ownsRow.cellAt hw j (by omega), List.getElem?_eq_getElem (by rw [List.length_append, hml, List.length_singleton]; omega)]; rfl
    by_cases hlt : x < xs.length
    · refine (Any2.slices_Insert_int_shift laysIns g 0 xs.length cap x vb 0 1 1 (xs.map (Value.int .i64)) [.int .i64 u] w hlt (by omega) hr (by unfold maxLen at hcm; omega) hvb hml rfl hcs hsp (fun j _ => World.ownsRow.frozenAt hw _) hvc h1c h1v 3 3 1 cap ?_ ?_ (by omega) (hfr 0) (hfr 1)).mono ?_
      · simp [World.shape?, hv]
      · rcases ho.2 with ⟨e0, _⟩ | ⟨g9, cap9, cur9, e0, _, h9, _, _, h3, _⟩
        · cases e0
        · simp only [Value.slice.injEq, Option.some.injEq, Addr.mk.injEq, and_true] at e0
          obtain ⟨rfl, -, rfl⟩ := e0
          simp [World.shape?, h9]; omega
      · rintro e w' ⟨rfl, rfl⟩
        exact key _ _ (InsG.shift ho hlt hr)
    · obtain rfl : x = xs.length := by omega
      refine (Any2.slices_Insert_int_end_room laysIns g 0 xs.length cap vb 0 1 1 [.int .i64 u] w (by omega) hr (by unfold maxLen at hcm; omega) rfl (fun j hj => by rw [Nat.add_assoc]; exact hsp _ (by omega)) (fun j _ => World.ownsRow.frozenAt hw _) hvc h1v).mono ?_
      rintro e w' ⟨rfl, rfl⟩
      exact key _ _ (InsG.room ho hr)
  · have hge : xs.length + 1 ≤ grownCap w (xs.length + 1) cap 3 := grownCap_ge w _ _ _
    have hgm : grownCap w (xs.length + 1) cap 3 ≤ maxLen := grownCap_le_maxLen w _ _ _ (by unfold maxLen; omega)
    by_cases hlt : x < xs.length
    · refine (Any2.slices_Insert_int_grow laysIns g 0 xs.length cap x vb 0 1 1 (xs.map (Value.int .i64)) [.int .i64 u] w hlt (by omega) hcap (by omega) (by omega) hml rfl hcs hvc h1c h1v).mono ?_
      rintro e w' ⟨rfl, rfl⟩
      exact key _ _ (InsG.grow hml hB hlt hge hgm (by simp [Builtin.zeroCells, Value.cells]) (by simp [Builtin.zeroCells, Value.cells]))
    · obtain rfl : x = xs.length := by omega
      refine (Any2.slices_Insert_int_end_grow laysIns (some ⟨g, 0, none⟩) xs.length cap vb 0 1 1 (xs.map (Value.int .i64)) [.int .i64 u] w (by omega) hcap (by omega) (by omega) hml rfl (fun h => by cases h) (fun a ha j v hj => by
        simp only [Option.some.injEq] at ha
        subst ha
        rw [Addr.add_lit]; exact hcs j v hj) hvc h1v).mono ?_
      rintro e w' ⟨rfl, rfl⟩
      exact key _ _ (InsG.endNew hml hB hge hgm (by simp [Builtin.zeroCells, Value.cells]))
set_option maxRecDepth 100000 in
theorem insOwn_any (a : Option Addr) (cap x vb : Nat) (B : Nat) (xs : List Int) (w : World) (ho : OwnI w B (.slice a xs.length cap) xs) (hx : x ≤ xs.length) (hn : xs.length ≤ 1000) (hB : B ≤ w.heap.size) (u : Int) (hvb : ∀ c, (Value.slice a xs.length cap).ownBlock = some c → vb ≠ c) (hv : w.heap[vb]? = some (.cells #[.int .i64 u] 3 (0, 0))) :
    Calls Tryz.prog 115 #[.slice a xs.length cap, .int .i64 (x : Int), .slice (some ⟨vb, 0, none⟩) 1 1] w fun e w' => ∃ g' c', e = .returned (.slice (some ⟨g', 0, none⟩) (xs.length + 1) c') ∧ OwnI w' B (.slice (some ⟨g', 0, none⟩) (xs.length + 1) c') (xs.take x ++ [u] ++ xs.drop x) ∧ w.grownBy w' (Value.slice a xs.length cap).ownBlock ∧ ((Value.slice a xs.length cap).ownBlock = some g' ∨ w.heap.size ≤ g') := by
  have hf := ho.2
  rcases hf with ⟨e0, h0⟩ | ⟨g, cap', cur, e0, _⟩
  · simp only [Value.slice.injEq] at e0
    obtain ⟨rfl, -, rfl⟩ := e0
    have hnil : xs = [] := List.length_eq_zero_iff.1 h0
    subst hnil
    obtain rfl : x = 0 := by simpa using hx
    have hvc : ∀ j v, ([Value.int .i64 u] : List Value)[j]? = some v → w.cell? ⟨vb, 0 + j, none⟩ = some v := fun j v hj => by
      obtain ⟨hlt, e⟩ := List.getElem?_eq_some_iff.1 hj
      obtain rfl : j = 0 := by simpa using hlt
      rw [cell_of_row w vb (0+0) _ _ (0, 0) hv]
      simpa using e
    have h1v : ∀ v ∈ ([Value.int .i64 u] : List Value), v.oneCell' = true := fun v hv => by simp at hv; subst hv; rfl
    refine (Any2.slices_Insert_int_end_grow laysIns none 0 0 vb 0 1 1 [] [.int .i64 u] w (by omega) (by omega) (by omega) (by omega) rfl rfl (fun _ => rfl) (fun a ha => by cases ha) hvc h1v).mono ?_
    rintro e w' ⟨rfl, rfl⟩
    have hge : 0 + 1 ≤ grownCap w (0 + 1) 0 3 := grownCap_ge w _ _ _
    have hgm : grownCap w (0 + 1) 0 3 ≤ maxLen := grownCap_le_maxLen w _ _ _ (by unfold maxLen; omega)
    have ⟨g', c', e1, h1, h2, h3⟩ := InsG.endNew (w := w) (B := B) (g := w.heap.size) (t := 3) (u := .int .i64 u) (xs := []) (n := 0) rfl hB hge hgm (zs := Builtin.zeroCells (Value.int .i64 0).cells (grownCap w (0 + 1) 0 3 - (0 + 1))) (by simp [Builtin.zeroCells, Value.cells])
    refine ⟨g', c', e1, h1, ?_, .inr (by rcases h3 with h | h <;> omega)⟩
    exact below_grown ((Below.refl _ _).drew.alloc (Nat.le_refl _) _) (Nat.le_refl _) _
  · simp only [Value.slice.injEq] at e0
    obtain ⟨rfl, -, rfl⟩ := e0
    refine (insOwnS g cap x vb B xs w ho hx hn hB u (hvb g rfl) hv).mono ?_
    rintro e w' ⟨g', c', e1, h1, h2, h3⟩
    refine ⟨g', c', e1, h1, h2, ?_⟩
    rcases h3 with h | h
    · exact .inl (by rw [h]; rfl)
    · exact .inr h

set_option maxHeartbeats 4000000 in
set_option maxRecDepth 100000 in
/-- one row put in: there is no room, so all of them move -/
theorem insRows_any (g B n x vb : Nat) (vl : List Value) (u : Value) (w : World) (h : w.ownsRow B 24 1 (.slice (some ⟨g, 0, none⟩) n n) n vl) (hsl : ∀ i, i < n → ∃ a m c, valAt vl i = .slice a m c) (hu : u.oneCell' = true) (hx : x ≤ n) (hn : n ≤ 1000) (hB : B ≤ w.heap.size) (hv : w.heap[vb]? = some (.cells #[u] 24 (0, 0))) :
    Calls Tryz.prog 114 #[.slice (some ⟨g, 0, none⟩) n n, .int .i64 (x : Int), .slice (some ⟨vb, 0, none⟩) 1 1] w fun e w' => InsG w w' B g n 24 vl x u e := by
  have mixed : Tryz.prog.follows .mixedOrders = true := by kernel_rfl
  obtain ⟨j0, hj0, hy0, hy1, hy2⟩ := info_parts infoSlice
  have hvl : vl.length = n := by have := h.1; omega
  have hvw : vb < w.heap.size := (Array.getElem?_eq_some_iff.1 hv).1
  have hbw : g < w.heap.size := (World.ownsRow.lt h g rfl).2
  have h1c : ∀ v ∈ vl, v.oneCell' = true := by
    intro v hv
    obtain ⟨t, ht, rfl⟩ := List.mem_iff_getElem.1 hv
    obtain ⟨a5, m5, c5, e5⟩ := hsl t (by omega)
    have e : vl[t]? = some (valAt vl t) := valAt_get (by omega)
    rw [List.getElem?_eq_getElem ht, e5] at e
    simp only [Option.some.injEq] at e
    rw [e]; rfl
  have hvs : ∀ j v, ([u] : List Value)[j]? = some v → w.cell? ⟨vb, j, none⟩ = some v := fun j v hj => by
    obtain ⟨hlt, e⟩ := List.getElem?_eq_some_iff.1 hj
    obtain rfl : j = 0 := by simpa using hlt
    rw [cell_of_row w vb 0 _ _ (0, 0) hv]
    simpa using e
  have hcs : ∀ j v, vl[j]? = some v → w.cell? ⟨g, j, none⟩ = some v := fun j v hj => by
    have := (List.getElem?_eq_some_iff.1 hj).1
    rw [World.ownsRow.cellAt h j (by omega)]; exact hj
  have h1v : ∀ v ∈ ([u] : List Value), v.oneCell' = true := fun v hv => by simp at hv; subst hv; exact hu
  have hGe : n + 1 ≤ grownCap w (n + 1) n 24 := grownCap_ge w _ _ _
  have hGm : grownCap w (n + 1) n 24 ≤ maxLen := grownCap_le_maxLen w _ _ _ (by unfold maxLen; omega)
  have hz1 : ¬ ((1 : Int) = 0) := by omega
  by_cases hxn : x = n
  · subst hxn
    have hold : (Builtin.firstCells j0.size x (.slice (some ⟨g, 0, none⟩) x x)).run Tryz.prog w.drew = .ok vl.toArray w.drew := by
      rw [hy1]
      exact run_firstCells_some w.drew 1 x ⟨g, 0, none⟩ x x vl (by omega) (fun j v hj => by rw [Addr.add_lit, Nat.zero_add]; exact hcs j v hj)
    have hsrc : Src Tryz.prog j0.size 43 (.slice (some ⟨vb, 0, none⟩) 1 1) 1 [u] w := by
      rw [hy1]
      exact Src.ofSlice w Tryz.underlying43 ⟨vb, 0, none⟩ 1 1 [u] (by rfl) (fun j v hj => by rw [Addr.add_lit, Nat.zero_add]; exact hvs j v hj) h1v
    have hrun := fun ty => run_append_grow_src w 43 43 ty 24 j0 _ Tryz.underlying43 hj0 hy0 (some ⟨g, 0, none⟩) x x vl hold _ 1 [u] hsrc (by omega) (by omega) (by rw [hy2]; exact growslice_fits (by omega) (by omega))
    have hfin := InsG.endNew (w := w) (B := B) (g := g) (t := 24) (u := u) hvl hB hGe hGm (zs := Builtin.zeroCells (Value.slice none 0 0).cells (grownCap w (x + 1) x 24 - (x + 1))) (by simp [Builtin.zeroCells, Value.cells])
    have HF := Lib.hid hfin
    clear hfin hsl h1c hcs hvs
    go_enter Tryz.func114, Tryz.ntmps114
    go_wp2_with (at_builtin; refine Lib.wpList_append_run _ rfl _ _ _ _ rfl _ _ rfl rfl _ _ (hrun _) ?_)
    all_goals
      go_ret
      exact HF.out
  · have hi : x < n := by omega
    have hz2 : ¬ ((x : Int) = (n : Int)) := by omega
    have hz3 : (n : Int) < (n : Int) + 1 := by omega
    have hkk : (n : Int) + 1 - (x : Int) = ((n + 1 - x : Nat) : Int) := by omega
    have hik : x + (n + 1 - x) = n + 1 := by omega
    have hold : (Builtin.firstCells j0.size x (.slice (some ⟨g, 0, none⟩) x n)).run Tryz.prog w.drew = .ok (vl.take x).toArray w.drew := by
      rw [hy1]
      exact run_firstCells_some w.drew 1 x ⟨g, 0, none⟩ x n (vl.take x) (by rw [List.length_take]; omega) (fun j v hj => by
        rw [Addr.add_lit, Nat.zero_add]
        rw [List.getElem?_take] at hj
        split at hj
        · exact hcs j v hj
        · cases hj)
    have hrz : ∀ ty, (Builtin.append_ #[43, 3] ty #[.slice (some ⟨g, 0, none⟩) x n, .int .i64 ((n : Int) + 1 - (x : Int))]).run Tryz.prog w =
        .ok (.slice (some ⟨w.heap.size, 0, none⟩) (n + 1) (grownCap w (n + 1) n 24)) (w.drew.alloc (.cells ((vl.take x).toArray ++ Builtin.zeroCells (Value.slice none 0 0).cells (n + 1 - x) ++ Builtin.zeroCells (Value.slice none 0 0).cells (grownCap w (n + 1) n 24 - (n + 1))) 24)) := fun ty => by
      have h := Lib.run_append_grow_zeros w 43 3 ty 24 j0 _ .i64 .i64 Tryz.underlying43 Tryz.underlying3 hj0 hy0 (some ⟨g, 0, none⟩) x n (vl.take x) hold (n + 1 - x) (by omega) (by omega) (by omega) (by omega) (by rw [hy2]; omega) (by rw [hy2, hik]; exact growslice_fits (by omega) (by omega))
      rw [hik] at h
      rw [hkk]
      exact h
    have hfin := InsG.grow (w := w) (B := B) (g := g) (t := 24) (u := u) hvl hB hi hGe hGm (ys := Builtin.zeroCells (Value.slice none 0 0).cells (n + 1 - x)) (zs := Builtin.zeroCells (Value.slice none 0 0).cells (grownCap w (n + 1) n 24 - (n + 1))) (by simp [Builtin.zeroCells, Value.cells]) (by simp [Builtin.zeroCells, Value.cells])
    obtain ⟨G, hG⟩ : ∃ G, G = grownCap w (n + 1) n 24 := ⟨_, rfl⟩
    rw [← hG] at hrz hGe hGm hfin
    obtain ⟨ROW, hROW⟩ : ∃ ROW : Array Value, ROW = (vl.take x).toArray ++ Builtin.zeroCells (Value.slice none 0 0).cells (n + 1 - x) ++ Builtin.zeroCells (Value.slice none 0 0).cells (G - (n + 1)) := ⟨_, rfl⟩
    rw [← hROW] at hrz hfin
    have hRl : n + 1 ≤ ROW.size := by
      rw [hROW]
      simp [Builtin.zeroCells, Value.cells]
      omega
    have HF := Lib.hid hfin
    obtain ⟨W1, hW1⟩ : ∃ W1, W1 = w.drew.alloc (.cells ROW 24) := ⟨_, rfl⟩
    rw [← hW1] at hrz
    have hsz : (Tryz.prog.info? 24).map (·.size) = some 1 := by rw [hj0]; simp [hy1]
    have hN : ∀ j, j < n + 1 → (W1.cell? ⟨w.heap.size, j, none⟩).isSome = true := fun j hj => by
      rw [hW1, World.cell?_alloc_at (w := w.drew) ROW _ w.heap.size j rfl, Array.getElem?_eq_getElem (by omega)]; rfl
    have hNf : ∀ j, W1.frozen? ⟨w.heap.size, j, none⟩ = false := fun j => by rw [hW1]; exact World.frozen?_alloc_at (w := w.drew) ROW _ w.heap.size j rfl
    have hOb : ∀ j v, w.cell? ⟨g, j, none⟩ = some v → W1.cell? ⟨g, j, none⟩ = some v := fun j v h => by rw [hW1, World.cell?_alloc_past (w := w.drew) _ g j hbw]; exact h
    have hOv : ∀ j v, w.cell? ⟨vb, j, none⟩ = some v → W1.cell? ⟨vb, j, none⟩ = some v := fun j v h => by rw [hW1, World.cell?_alloc_past (w := w.drew) _ vb j hvw]; exact h
    have hcpA : ∀ (W : World), (∀ x, W.cell? x = W1.cell? x) → (∀ x, W.frozen? x = W1.frozen? x) → ∀ ty dc, (Builtin.copy_ #[43, 43] ty #[.slice (some ⟨w.heap.size, x, none⟩) (n + 1 - x) dc, .slice (some ⟨vb, 0, none⟩) 1 1]).run Tryz.prog W = .ok (goInt ([u] : List Value).length) (W.setCells w.heap.size x [u]) := fun W hWc hWf ty dc =>
      run_copy_cells W _ _ ty 24 w.heap.size x (n + 1 - x) dc ⟨vb, 0, none⟩ 1 1 [u] Tryz.underlying43 hsz (by rw [List.length_singleton]; simp only [Nat.min_def]; split <;> omega)
        (fun j v hj => by rw [Addr.add_lit, Nat.zero_add, hWc]; exact hOv _ v (hvs j v hj))
        (fun j hj => by rw [List.length_singleton] at hj; rw [hWc]; exact hN _ (by omega)) (fun j hj => by rw [hWf]; exact hNf _) h1v
    have hGn : n + 1 ≤ G := hGe
    have hG63 : G ≤ 9223372036854775807 := by unfold maxLen at hGm; omega
    have hGi : ¬ (G = x) := by omega
    have hGim : ¬ (G = x + 1) := by omega
    have hci : ¬ (n = x) := by omega
    have hbN : g ≠ w.heap.size := by omega
    have hdl : (vl.drop x).length = n - x := by rw [List.length_drop, hvl]
    have hcpB : ∀ (W : World), (∀ y, W.cell? y = (W1.setCells w.heap.size x [u]).cell? y) → (∀ y, W.frozen? y = (W1.setCells w.heap.size x [u]).frozen? y) → ∀ ty dc sc, (Builtin.copy_ #[43, 43] ty #[.slice (some ⟨w.heap.size, x + 1, none⟩) (n + 1 - (x + 1)) dc, .slice (some ⟨g, 0 + x, none⟩) (n - x) sc]).run Tryz.prog W = .ok (goInt (vl.drop x).length) (W.setCells w.heap.size (x + 1) (vl.drop x)) := fun W hWc hWf ty dc sc =>
      run_copy_cells W _ _ ty 24 w.heap.size (x + 1) (n + 1 - (x + 1)) dc ⟨g, 0 + x, none⟩ (n - x) sc (vl.drop x) Tryz.underlying43 hsz (by rw [hdl]; simp only [Nat.min_def]; split <;> omega)
        (fun j v hj => by
          rw [Addr.add_lit, hWc, World.cell?_setCells_out _ _ _ _ _ (fun h _ => absurd h hbN), Nat.zero_add]
          exact hOb _ v (hcs (x + j) v (by rwa [List.getElem?_drop] at hj)))
        (fun j hj => by rw [hdl] at hj; rw [hWc]; exact isSome_setCells _ _ _ _ (fun t ht => by rw [List.length_singleton] at ht; exact hN _ (by omega)) _ (hN _ (by omega)))
        (fun j hj => by rw [hWf, World.frozen?_setCells]; exact hNf _) (fun v hv => h1c v (List.mem_of_mem_drop hv))
    subst hW1
    have hE1 : ∀ y, ((w.alloc (.cells ROW 24)).drew).cell? y = (w.drew.alloc (.cells ROW 24)).cell? y := fun y => rfl
    have hE2 : ∀ y, ((w.alloc (.cells ROW 24)).drew).frozen? y = (w.drew.alloc (.cells ROW 24)).frozen? y := fun y => rfl
    have hF1 : ∀ y, (((w.alloc (.cells ROW 24)).drew.setCells w.heap.size x [u]).drew).cell? y = ((w.drew.alloc (.cells ROW 24)).setCells w.heap.size x [u]).cell? y := fun y => rfl
    have hF2 : ∀ y, (((w.alloc (.cells ROW 24)).drew.setCells w.heap.size x [u]).drew).frozen? y = ((w.drew.alloc (.cells ROW 24)).setCells w.heap.size x [u]).frozen? y := fun y => rfl
    have hw1 : IntKind.i64.wrap ((x : Int) + 1) = (x : Int) + 1 := by rw [IntKind.wrap_i64]; omega
    have hb1 : (0 : Int) ≤ (x : Int) + 1 := by omega
    have hin : x ≤ n := by omega
    have htn : ((x : Int) + 1).toNat = x + 1 := by omega
    have hb3 : (x : Int) ≤ (n : Int) := by omega
    clear hkk hik hold hROW hG hRl hsl hxn hfin
    go_enter Tryz.func114, Tryz.ntmps114
    go_wp2_with (first
      | (at_builtin; refine Lib.wpList_append_run _ rfl _ _ _ _ rfl _ _ rfl rfl _ _ (hrz _) ?_)
      | (at_builtin; refine wpList_copy_runI _ rfl _ _ 43 43 rfl _ _ rfl rfl (hcpA _ hE1 hE2 _ _) ?_)
      | (at_builtin; refine wpList_copy_runI _ rfl _ _ 43 43 rfl _ _ rfl rfl (hcpB _ (fun _ => rfl) (fun _ => rfl) _ _ _) ?_))
    go_region_law_o (refine step_copy_runI rfl _ _ 43 43 rfl (.slice (some ⟨w.heap.size, x + 1, none⟩) (n + 1 - (x + 1)) (G - (x + 1))) (.slice (some ⟨g, 0 + x, none⟩) (n - x) (n - x)) (by simp [Act.eval, Act.put]) (by simp [Act.eval, Act.put]) (hcpB _ hF1 hF2 3 (G - (x + 1)) (n - x)) ?_)
    all_goals
      go_wp2
      go_ret
      exact HF.out

set_option maxRecDepth 100000 in
set_option maxHeartbeats 1000000 in
theorem putIn_any (g B n x : Nat) (vl : List Value) (f : Nat → Nat → Int) (w : World) (h : RowsP w B (.slice (some ⟨g, 0, none⟩) n n) vl (sqM f n n)) (hx : x ≤ n) (hB : B ≤ w.heap.size) (hn : n ≤ 12) :
    Calls Tryz.prog 91 #[.slice (some ⟨g, 0, none⟩) n n, .int .i64 (x : Int)] w fun e w' => ∃ g' c' ul, e = .returned (.slice (some ⟨g', 0, none⟩) (n + 1) c') ∧ RowsP w' B (.slice (some ⟨g', 0, none⟩) (n + 1) c') ul (sqM (swF (fun a b => wdF (inR f x a) x b) (n+1) x x) (n + 1) (n + 1)) ∧ Below B w w' := by
  obtain ⟨i0, hi, hz0, hz1, hz2⟩ := info_parts infoInt
  have H := Lib.hid h
  have hblk := h.blk
  rw [sqM_len] at hblk
  have hgl := hblk.1 g rfl
  have HB := Lib.hid hblk
  clear h hblk
  go_enter Tryz.func91, Tryz.ntmps91
  go_wp2_with (at_make; refine wpList_make_full _ rfl (.tmp 11) (.tmp 11) 24 rfl w.heap.size 3 i0 (.int .i64 0) 1 Tryz.underlying24 hi hz0 hz1 .i64 .i64 _ _ n rfl rfl rfl rfl (by rw [hz2]; omega) (by unfold maxLen; omega) (Nat.le_refl _) ?_; intro w1 hown hgrow)
  have hb1 : Below w.heap.size w w1 := (Below.refl _ _).grown hgrow (Nat.le_refl _) (fun k h => by cases h)
  have hz1w : w.heap.size ≤ w1.heap.size := hb1.size
  have hown1 := made_row (fun _ => 0) hown
  rw [show rowF (fun _ => 0) n 0 = fmap (fun _ => (0:Int)) n by simp [rowF, fmap, List.map_const']] at hown1
  have bW := hb1.alloc hb1.size (.cells #[.slice (some ⟨w.heap.size, 0, none⟩) n n] 24)
  have hroW := H.out.below bW (Nat.le_refl _)
  have hownW := hown1.alloc (.cells #[.slice (some ⟨w.heap.size, 0, none⟩) n n] 24)
  have hsl : ∀ i, i < n → ∃ a m c, valAt vl i = .slice a m c := fun i hi => by
    obtain ⟨a9, c9, e9⟩ := (hroW.o.row i (by rw [sqM_len]; exact hi)).form
    exact ⟨a9, _, c9, e9⟩
  have hoW := hroW.o.own
  rw [sqM_len] at hoW
  have HINS := Lib.hid (insRows_any g B n x w1.heap.size vl (.slice (some ⟨w.heap.size, 0, none⟩) n n) _ hoW hsl rfl hx (by omega) (by have := bW.size; omega) (heap_alloc_new w1 _))
  have HROW := Lib.hid hroW
  have HOWN := Lib.hid hownW
  have HBW := Lib.hid bW
  have hBg := (H.out.o.lt g rfl).1
  clear hown hgrow hb1 hown1 bW hroW hownW hoW hsl
  refine HINS.out.mono ?_
  rintro e w2 ⟨g2, c2, rfl, ho2, hg2, hat2⟩
  have hN2 : n + 1 ≤ c2 := by
    rcases ho2.2 with ⟨e0, _⟩ | ⟨g9, cap9, cur9, e0, _, _, h9, _⟩
    · cases e0
    · simp only [Value.slice.injEq] at e0
      obtain ⟨-, -, rfl⟩ := e0
      exact h9
  have hro2 := HROW.out.ins hx HOWN.out hB hgl HB.out.2 ho2 hg2 hat2
  have b2 : Below B w w2 := (HBW.out.mono hB).trans (grown_below hg2 B hBg (by have := HBW.out.size; omega))
  obtain ⟨F, hF⟩ : ∃ F, F = inR f x := ⟨_, rfl⟩
  have HF := Lib.hid hF
  rw [← hF, ← ptM_zero (x := x)] at hro2
  obtain ⟨ul0, hul0⟩ : ∃ ul0, ul0 = vl.take x ++ [.slice (some ⟨w.heap.size, 0, none⟩) n n] ++ vl.drop x := ⟨_, rfl⟩
  rw [← hul0] at hro2
  obtain ⟨N, hN⟩ : ∃ N, N = n + 1 := ⟨_, rfl⟩
  have HN := Lib.hid hN
  have hnN : n ≤ N := by omega
  have hN13 : N ≤ 13 := by omega
  have hxN : x < N := by omega
  rw [← hN] at hro2 hN2 ⊢
  have HR2 := Lib.hid hro2
  have hs2 : w.heap.size ≤ w2.heap.size := b2.size
  clear hro2 ho2 hg2 hF hul0 hN HINS HROW HOWN HBW hat2
  go_wp2_with fail
  go_loopw [17] (fun i wr => ∃ (k : Nat) (ul : List Value), k ≤ N ∧ i = .int .i64 k ∧ RowsP wr B (.slice (some ⟨g2, 0, none⟩) N c2) ul (ptM F n x k) ∧ Below B w wr) (fun i _ => N - (intOf i).toNat)
  case atStart => exact ⟨0, _, Nat.zero_le _, rfl, HR2.out, b2⟩
  case round =>
    clear b2
    obtain ⟨k, ul, hk, rfl, hro, hb⟩ := hrel
    have hbs := hb.size
    by_cases hlt : k < N
    · have k1 : (k : Int) < (N : Int) := by omega
      have hkl : k < n + 1 := by rw [← HN.out]; exact hlt
      have hk9 : k < (ptM F n x k).length := by rw [ptM_len]; exact hkl
      obtain ⟨g4, e4, hg4, hg5, hc4, hf4⟩ := hro.outer hk9
      simp only [Option.some.injEq, Addr.mk.injEq, and_true] at e4
      subst e4
      have hrow := hro.o.row k hk9
      obtain ⟨ar, cr, er⟩ := hrow.form
      have hrl : (rowL (ptM F n x k) k).length = n := by rw [ptM_row hkl, if_neg (Nat.lt_irrefl k), fmap_len]
      have hroA := hro.below ((Below.refl _ _).alloc (Nat.le_refl _) (.cells #[.int .i64 0] 3)) (Nat.le_refl _)
      have HRO := Lib.hid hroA
      have HER := Lib.hid er
      have HTS := Lib.hid (ptM_step (f := F) hkl hx)
      rw [er] at hc4 hrow
      have hlo := hrow.lt
      have HIN := Lib.hid (insOwn_any ar cr x wr.heap.size B (rowL (ptM F n x k) k) _ (hrow.alloc (.cells #[.int .i64 0] 3)) (by rw [hrl]; exact hx) (by rw [hrl]; omega) (by simp; omega) 0 (fun c e => by have := (hlo c e).2; omega) (heap_alloc_new wr _))
      rw [hrl] at hc4 HIN HER hlo
      have HNN : Hid (n + 1 = N) := HN.out.symm
      rw [HNN.out] at HIN
      clear hro hrow er hrl hk9 hkl hroA
      go_wp2_with fail
      refine HIN.out.mono ?_
      rintro e w3 ⟨g5, c5, rfl, ho3, hg3, hat3⟩
      have hs3 : wr.heap.size + 1 ≤ w3.heap.size := by have := hg3.size; simpa using this
      obtain ⟨g9, c9, e9, hg9, hg10, ⟨z9, hz9⟩, hf9, hnew⟩ := HRO.out.growRow (k := k) (by rw [ptM_len, HNN.out]; exact hlt) (by rw [HER.out]; exact hg3) ho3 (fun c e => by
        rw [HER.out]
        simp only [Value.ownBlock, Option.some.injEq] at e
        rcases hat3 with h | h
        · left; rw [h, e]
        · right; omega)
      simp only [Value.slice.injEq, Option.some.injEq, Addr.mk.injEq, and_true] at e9
      obtain ⟨rfl, -, -⟩ := e9
      rw [HTS.out] at hnew
      have HNEW := Lib.hid hnew
      have b3 : Below B w w3 := (hb.alloc (by omega) (.cells #[.int .i64 0] 3)).trans (below_of_grown hg3 (fun c e => (hlo c e).1) (by simp; omega))
      have b4 := b3.setCell (p := ⟨g2, k, none⟩) hg4 (.slice (some ⟨g5, 0, none⟩) N c5)
      clear ho3 hg3 hnew hat3
      go_wp2_with fail
      go_roundw
      case rel => exact ⟨k + 1, _, by omega, by go_num, HNEW.out, b4⟩
      case measure => simp [intOf]; omega
    · obtain rfl : k = N := by omega
      have hf := hro
      rw [show ptM F n x k = sqM (fun a b => wdF (F a) x b) k k by have h := ptM_end (f := F) (n := n) (x := x); rw [← HN.out] at h; exact h] at hf
      have HSW := Lib.hid (swapLast_any g2 c2 c2 B k k x x ul (fun a b => wdF (F a) x b) wr hf (by omega) hxN (by omega) (by omega) (by omega))
      have hxc : x ≤ c2 := by omega
      clear hro hf
      go_wp2_with fail
      refine HSW.out.mono ?_
      rintro e w4 ⟨rfl, hro4, hb4⟩
      have HR4 := Lib.hid hro4
      have b4 := hb.trans hb4
      clear hro4 hb4 HSW
      go_wp2_with fail
      go_ret
      rw [← HN.out]
      refine ⟨g2, c2, ul, rfl, ?_, b4⟩
      have h := HR4.out
      rw [HF.out] at h
      exact h

def addB (s x : Int) : Bool := decide (0 ≤ x) && decide (s + x ≤ 12)
theorem addB_iff {s x : Int} : addB s x = true ↔ 0 ≤ x ∧ s + x ≤ 12 := by simp [addB]
def addW (b : Nat) (s x : Int) (w : World) : World := if addB s x = true then w.setCell ⟨b, 0, none⟩ (.int .i64 (s + x)) else w
theorem iAdd_any (b : Nat) (s x : Int) (v : Value) (w : World) (hv : Var2 w b (.int .i64 s) v) (h0 : 0 ≤ s ∧ s ≤ 12) :
    Calls Tryz.prog 90 #[.pointer (some ⟨b, 0, none⟩), .int .i64 x] w fun e w' => e = .returned (.bool (addB s x)) ∧ w' = addW b s x w := by
  have ⟨⟨z, c, d⟩, f, g⟩ := hv
  by_cases h1 : x < 0
  · have H : Hid (addB s x = false) := by rw [Hid, ← Bool.not_eq_true, addB_iff]; omega
    go_enter Tryz.func90, Tryz.ntmps90
    go_wp2_with fail
    go_ret
    exact ⟨ret_bool H.out.symm, by rw [addW, H.out]; rfl⟩
  · by_cases h2 : 12 - s < x
    · have H : Hid (addB s x = false) := by rw [Hid, ← Bool.not_eq_true, addB_iff]; omega
      go_enter Tryz.func90, Tryz.ntmps90
      go_wp2_with fail
      go_ret
      exact ⟨ret_bool H.out.symm, by rw [addW, H.out]; rfl⟩
    · have H : Hid (addB s x = true) := addB_iff.2 (by omega)
      go_enter Tryz.func90, Tryz.ntmps90
      go_wp2_with fail
      go_ret
      exact ⟨ret_bool H.out.symm, by rw [addW, H.out]; rfl⟩

theorem infoSum : (Tryz.prog.info? 115).map (fun i => (i.zero, i.size, i.bytes)) = some (some (.agg #[.int .i64 0, .slice none 0 0]), 2, 32) := by kernel_rfl
theorem valAt_end (vl : List Value) (v : Value) : valAt (vl ++ [v]) vl.length = v := by
  simp [valAt]
/-- the cells of the first k rows, each with its sum ahead of it -/
def pcs (xss : List (List Int)) (vl : List Value) : Nat → List Value
  | 0 => []
  | k+1 => pcs xss vl k ++ [.int .i64 (totR (rowL xss k)), valAt vl k]
theorem pcs_len (xss : List (List Int)) (vl : List Value) : ∀ k, (pcs xss vl k).length = k * 2
  | 0 => rfl
  | k+1 => by rw [pcs, List.length_append, pcs_len xss vl k]; simp; omega
theorem pcs_at {xss : List (List Int)} {vl : List Value} {i : Nat} : ∀ {k : Nat}, i < k → (pcs xss vl k)[i * 2]? = some (.int .i64 (totR (rowL xss i))) ∧ (pcs xss vl k)[i * 2 + 1]? = some (valAt vl i)
  | 0, h => by omega
  | k+1, h => by
    have hl := pcs_len xss vl k
    by_cases e : i = k
    · subst e
      rw [pcs, List.getElem?_append_right (by omega), List.getElem?_append_right (by omega), hl]
      refine ⟨?_, ?_⟩
      · rw [Nat.sub_self]; rfl
      · rw [show i * 2 + 1 - i * 2 = 1 by omega]; rfl
    · rw [pcs, List.getElem?_append_left (by omega), List.getElem?_append_left (by omega)]
      exact pcs_at (by omega)
theorem rowL_app {xss yss : List (List Int)} {k : Nat} (h : k < xss.length) : rowL (xss ++ yss) k = rowL xss k := by
  rw [rowL, rowL, List.getD_eq_getElem?_getD, List.getD_eq_getElem?_getD, List.getElem?_append_left h]
theorem rowL_last (xss : List (List Int)) (r : List Int) : rowL (xss ++ [r]) xss.length = r := by
  simp [rowL]
theorem rowL_take {xss : List (List Int)} {j k : Nat} (h : j < k) : rowL (xss.take k) j = rowL xss j := by
  rw [rowL, rowL, List.getD_eq_getElem?_getD, List.getD_eq_getElem?_getD, List.getElem?_take, if_pos h]
theorem take_snocR {xss : List (List Int)} {k : Nat} (h : k < xss.length) : xss.take (k+1) = xss.take k ++ [rowL xss k] := by
  rw [List.take_succ_eq_append_getElem h]
  simp [rowL, h]
theorem pcs_congr {xss yss : List (List Int)} {vl ul : List Value} : ∀ {k : Nat}, (∀ j, j < k → rowL xss j = rowL yss j ∧ valAt vl j = valAt ul j) → pcs xss vl k = pcs yss ul k
  | 0, _ => rfl
  | k+1, h => by rw [pcs, pcs, pcs_congr (fun j hj => h j (by omega)), (h k (by omega)).1, (h k (by omega)).2]
/-- rows with their sums, each row in a block of its own -/
structure SumP (w : World) (B : Nat) (v : Value) (vl : List Value) (xss : List (List Int)) : Prop where
  own : w.ownsRow B 115 2 v xss.length (pcs xss vl xss.length)
  vlen : vl.length = xss.length
  row : ∀ k, k < xss.length → OwnI w B (valAt vl k) (rowL xss k)
  apart : ∀ k, k < xss.length → ∀ c, (valAt vl k).ownBlock = some c → v.ownBlock ≠ some c
  pair : ∀ j k, j < k → k < xss.length → ∀ c, (valAt vl j).ownBlock = some c → (valAt vl k).ownBlock ≠ some c
theorem SumP.nil (w : World) (B : Nat) : SumP w B (.slice none 0 0) [] [] :=
  ⟨World.ownsRow_nil _ _ _ _, rfl, fun k hk => by simp at hk, fun k hk => by simp at hk, fun j k _ hk => by simp at hk⟩
theorem SumP.form {w : World} {B : Nat} {v : Value} {vl : List Value} {xss : List (List Int)} (h : SumP w B v vl xss) : ∃ a cap, v = .slice a xss.length cap := by
  rcases h.own.2 with ⟨rfl, h0⟩ | ⟨g, cap, cur, rfl, _⟩
  · exact ⟨none, 0, by rw [h0]⟩
  · exact ⟨_, _, rfl⟩
theorem SumP.below {w w' : World} {B B' : Nat} {v : Value} {vl : List Value} {xss : List (List Int)} (h : SumP w B v vl xss) (hb : Below B' w w') (hB : w.heap.size ≤ B') : SumP w' B v vl xss :=
  ⟨ownsRow_bel h.own hb hB, h.vlen, fun k hk => (h.row k hk).below hb hB, h.apart, h.pair⟩
theorem SumP.lt {w : World} {B : Nat} {v : Value} {vl : List Value} {xss : List (List Int)} (h : SumP w B v vl xss) : ∀ b, v.ownBlock = some b → B ≤ b ∧ b < w.heap.size := World.ownsRow.lt h.own
theorem SumP.blk {w : World} {B : Nat} {v : Value} {vl : List Value} {xss : List (List Int)} (h : SumP w B v vl xss) : (∀ c, v.ownBlock = some c → c < w.heap.size) ∧ ∀ k, k < xss.length → ∀ c, (valAt vl k).ownBlock = some c → c < w.heap.size :=
  ⟨fun c e => (h.lt c e).2, fun k hk c e => ((h.row k hk).lt c e).2⟩
theorem SumP.mono {w : World} {B B' : Nat} {v : Value} {vl : List Value} {xss : List (List Int)} (h : SumP w B v vl xss) (hB : B' ≤ B) : SumP w B' v vl xss := by
  refine ⟨⟨h.own.1, ?_⟩, h.vlen, fun k hk => (h.row k hk).mono hB, h.apart, h.pair⟩
  rcases h.own.2 with hn | ⟨g, cap, cur, e, hb, rest⟩
  · exact .inl hn
  · exact .inr ⟨g, cap, cur, e, by omega, rest⟩
/-- the cells of a part -/
theorem SumP.at {w : World} {B n cap : Nat} {a : Option Addr} {vl : List Value} {xss : List (List Int)} (h : SumP w B (.slice a n cap) vl xss) {k : Nat} (hk : k < xss.length) : ∃ g, a = some ⟨g, 0, none⟩ ∧ g < w.heap.size ∧ w.cell? ⟨g, k * 2, none⟩ = some (.int .i64 (totR (rowL xss k))) ∧ w.cell? ⟨g, k * 2 + 1, none⟩ = some (valAt vl k) := by
  rcases h.own.2 with ⟨e, h0⟩ | ⟨g, cap3, cur, e, hb, hg, hn, hm, hs, ht⟩
  · omega
  · simp only [Value.slice.injEq] at e
    obtain ⟨rfl, rfl, rfl⟩ := e
    have ⟨h1, h2⟩ := pcs_at (xss := xss) (vl := vl) hk
    exact ⟨g, rfl, (Array.getElem?_eq_some_iff.1 hg).1, by rw [World.ownsRow.cellAt h.own (k*2) (by omega), h1], by rw [World.ownsRow.cellAt h.own (k*2+1) (by omega), h2]⟩
/-- one part more at the end -/
theorem SumP.snoc {w w' : World} {B C : Nat} {v v' : Value} {vl : List Value} {xss : List (List Int)} {u : Value} {r : List Int} (h : SumP w B v vl xss) (hr : OwnI w C u r) (hBC : B ≤ C) (hvC : ∀ c, v.ownBlock = some c → c < C) (hrC : ∀ k, k < xss.length → ∀ c, (valAt vl k).ownBlock = some c → c < C)
    (ho : w'.ownsRow B 115 2 v' (xss.length + 1) (pcs xss vl xss.length ++ [.int .i64 (totR r), u])) (hg : w.grownBy w' v.ownBlock) (hv' : v'.ownBlock = v.ownBlock ∨ ∃ m, w.heap.size ≤ m ∧ v'.ownBlock = some m) : SumP w' B v' (vl ++ [u]) (xss ++ [r]) := by
  have hl := h.vlen
  have e1 : ∀ k, k < xss.length → valAt (vl ++ [u]) k = valAt vl k := fun k hk => by rw [valAt, valAt, List.getD_eq_getElem?_getD, List.getD_eq_getElem?_getD, List.getElem?_append_left (by omega)]
  have e2 : valAt (vl ++ [u]) xss.length = u := by rw [← hl]; exact valAt_end vl u
  have hur := hr.lt
  refine ⟨?_, by simp [hl], fun k hk => ?_, fun k hk c hc hc2 => ?_, fun j k hjk hk c hc => ?_⟩
  · rw [List.length_append, List.length_singleton, pcs, e2, rowL_last, pcs_congr (yss := xss) (ul := vl) (fun j hj => ⟨rowL_app hj, e1 j hj⟩)]
    exact ho
  · rw [List.length_append, List.length_singleton] at hk
    by_cases e : k = xss.length
    · subst e
      rw [e2, rowL_last]
      exact (hr.mono hBC).kept hg (own_ne (fun c h1 h3 => by have := hvC c h3; have := (hur c h1).1; omega))
    · rw [e1 k (by omega), rowL_app (by omega)]
      exact (h.row k (by omega)).kept hg (own_ne (fun c h1 h3 => h.apart k (by omega) c h1 h3))
  · rw [List.length_append, List.length_singleton] at hk
    by_cases e : k = xss.length
    · subst e
      rw [e2] at hc
      have h1 := hur c hc
      rcases hv' with h3 | ⟨m, hm, h3⟩
      · rw [h3] at hc2; have := hvC c hc2; omega
      · rw [h3] at hc2; simp only [Option.some.injEq] at hc2; omega
    · rw [e1 k (by omega)] at hc
      have h1 := ((h.row k (by omega)).lt c hc).2
      rcases hv' with h3 | ⟨m, hm, h3⟩
      · rw [h3] at hc2; exact h.apart k (by omega) c hc hc2
      · rw [h3] at hc2; simp only [Option.some.injEq] at hc2; omega
  · rw [List.length_append, List.length_singleton] at hk
    rw [e1 j (by omega)] at hc
    by_cases e : k = xss.length
    · subst e
      rw [e2]
      intro h3
      have := hrC j (by omega) c hc
      have := (hur c h3).1
      omega
    · rw [e1 k (by omega)]
      exact h.pair j k hjk (by omega) c hc

theorem Var2.set0 {w : World} {b : Nat} {u v : Value} (h : Var2 w b u v) (u' : Value) : Var2 (w.setCell ⟨b, 0, none⟩ u') b u' v := by
  refine ⟨⟨by simpa using h.1.1, ?_, ?_⟩, by simpa using h.2.1, by simpa using h.2.2⟩
  · rw [World.cell?_setCell_same _ _ _ h.1.2.1]
  · rw [World.cell?_setCell_other _ _ _ _ (by simp)]; exact h.1.2.2

def addV (s x : Int) : Int := if addB s x = true then s + x else s
theorem iPut_any (b : Nat) (s x : Int) (v : Value) (ys : List Int) (w : World) (hv : Var2 w b (.int .i64 s) v) (h0 : 0 ≤ s ∧ s ≤ 12) (ho : OwnI w (b+1) v ys) (h63 : ys.length ≤ 1048576) :
    Calls Tryz.prog 135 #[.pointer (some ⟨b, 0, none⟩), .int .i64 x, .int .i64 x] w fun e w' => e = .returned (.bool (addB s x)) ∧ ∃ v', Var2 w' b (.int .i64 (addV s x)) v' ∧ OwnI w' (b+1) v' (ys ++ [x]) ∧ Below b w w' := by
  have ⟨⟨z, c, d⟩, f, g⟩ := hv
  have HV := Lib.hid hv
  obtain ⟨av, cv, rfl⟩ := ho.form
  have HO := Lib.hid ho
  clear hv ho
  go_enter Tryz.func135, Tryz.ntmps135
  go_wp2_with (at_builtin; refine push_at rfl _ _ rfl (z := x) rfl HO.out rfl (by omega) (by omega) ?_)
  intro v3 w3 o3 hg hat
  have hU := HO.out.lt
  have hv3 := HV.out.kept hg (ne_own (fun c e => by have := (hU c e).1; omega))
  have b3 : Below b w w3 := below_of_grown hg (fun c e => by have := (hU c e).1; omega) (by omega)
  have ⟨⟨z3, c3, d3⟩, f3, g3⟩ := hv3
  clear hg hat hU
  obtain ⟨a3, k3, rfl⟩ := o3.form
  rw [show (ys ++ [x]).length = ys.length + 1 by simp] at o3 ⊢
  go_wp2_with fail
  have hv4 := hv3.set1 (.slice a3 (ys.length + 1) k3)
  refine (iAdd_any b s x _ _ hv4 h0).mono ?_
  rintro e w5 ⟨rfl, hw5⟩
  have H : Hid (∃ v', Var2 w5 b (.int .i64 (addV s x)) v' ∧ OwnI w5 (b+1) v' (ys ++ [x]) ∧ Below b w w5) := by
    rw [hw5, addW, addV]
    cases addB s x
    · exact ⟨.slice a3 (ys.length + 1) k3, by simpa using hv4, by simpa using o3.setBelow (show b < b + 1 by omega) _, by simpa using b3.setCell (Nat.le_refl _) _⟩
    · exact ⟨.slice a3 (ys.length + 1) k3, by simpa using hv4.set0 _, by simpa using (o3.setBelow (show b < b + 1 by omega) _).setBelow (show b < b + 1 by omega) _, by simpa using (b3.setCell (Nat.le_refl _) _).setCell (Nat.le_refl _) _⟩
  clear hw5 hv4
  go_wp2_with fail
  go_ret
  exact ⟨rfl, H.out⟩

set_option maxRecDepth 100000 in
theorem iPutS_any (b : Nat) (s x : Int) (v : Value) (vl : List Value) (xss : List (List Int)) (r : List Int) (ra : Option Addr) (rc B C : Nat) (w : World) (hv : Var2 w b (.int .i64 s) v) (h0 : 0 ≤ s ∧ s ≤ 12)
    (hp : SumP w B v vl xss) (hr : OwnI w C (.slice ra r.length rc) r) (hbB : b + 1 ≤ B) (hBC : B ≤ C) (hC : C ≤ w.heap.size) (hvC : ∀ c, v.ownBlock = some c → c < C) (hrC : ∀ k, k < xss.length → ∀ c, (valAt vl k).ownBlock = some c → c < C) (h63 : xss.length ≤ 1048576) :
    Calls Tryz.prog 136 #[.pointer (some ⟨b, 0, none⟩), .agg #[.int .i64 (totR r), .slice ra r.length rc], .int .i64 x] w fun e w' => e = .returned (.bool (addB s x)) ∧ ∃ v', Var2 w' b (.int .i64 (addV s x)) v' ∧ SumP w' B v' (vl ++ [.slice ra r.length rc]) (xss ++ [r]) ∧ Below b w w' := by
  obtain ⟨i0, hi, hz0, hz1, hz2⟩ := info_parts infoSum
  have ⟨⟨z, c, d⟩, f, g⟩ := hv
  have HV := Lib.hid hv
  obtain ⟨av, cv, rfl⟩ := hp.form
  have HP := Lib.hid hp
  have HR := Lib.hid hr
  have HB := Lib.hid hvC
  have HRB := Lib.hid hrC
  have Hown := Lib.hid (ownsRow_bel hp.own (w' := ((w.alloc (.cells #[.int .i64 (totR r), .slice ra r.length rc] 115)).alloc (.cells #[.int .i64 (totR r), .slice ra r.length rc] 115)).drew) ((((Below.refl _ _).alloc (Nat.le_refl _) _).alloc (by simp) _).drew) (Nat.le_refl _))
  have hnews := cell_two_new (w.alloc (.cells #[.int .i64 (totR r), .slice ra r.length rc] 115)) (.int .i64 (totR r)) (.slice ra r.length rc) 115
  simp only [World.size_alloc] at hnews
  have Hnews := Lib.hid hnews
  have hpl := pcs_len xss vl xss.length
  have HPL := Lib.hid hpl
  clear hv hp hr hnews hvC hrC hpl
  obtain ⟨PC, hPC⟩ : ∃ PC, PC = pcs xss vl xss.length := ⟨_, rfl⟩
  have HPC := Lib.hid hPC
  rw [← hPC] at Hown HPL
  clear hPC
  obtain ⟨T, hT⟩ : ∃ T, T = totR r := ⟨_, rfl⟩
  have HT := Lib.hid hT
  rw [← hT] at Hown Hnews ⊢
  clear hT
  go_enter Tryz.func136, Tryz.ntmps136
  go_wp2_with fail
  go_region_law (refine step_append_lies _ (by rfl) _ _ _ (by rfl) B 115 i0 (.agg #[.int .i64 0, .slice none 0 0]) 2 32 Tryz.underlying106 hi hz0 hz1 hz2 rfl (by omega) (.slice av xss.length cv) xss.length PC (by rfl) Hown.out ⟨w.heap.size + 1, 0, none⟩ 1 1 [.int .i64 T, .slice ra r.length rc] (by rfl) (by rfl) Hnews.out (by intro u hu; simp at hu; rcases hu with rfl | rfl <;> rfl) (by omega) (by unfold maxLen; omega) (by omega) (by simp; omega) (w.heap.size + 2) (by simp) ?_; intro gg cap3 w3 hown3 hgrow hat hlt3; have hg2 : w.grownBy w3 (Value.slice av xss.length cv).ownBlock := grown_alloc_set (grown_alloc_set (o := .cells #[.int .i64 T, .slice ra r.length rc] 115) ⟨hgrow.os, hgrow.tape, hgrow.output, hgrow.size, hgrow.block⟩); have hv3 := HV.out.kept hg2 (ne_own (fun c e => by have := (HP.out.lt c e).1; omega)); have ⟨⟨z3, c3, d3⟩, f3, g3⟩ := hv3)
  all_goals
    have hp3 : SumP w3 B (.slice (some ⟨gg, 0, none⟩) (xss.length + 1) cap3) (vl ++ [.slice ra r.length rc]) (xss ++ [r]) := by
      refine HP.out.snoc HR.out hBC HB.out HRB.out ?_ hg2 ?_
      · rw [← HPC.out, ← HT.out]; exact hown3
      · rcases hat with h | h
        · exact .inl (by rw [h]; rfl)
        · exact .inr ⟨gg, by omega, rfl⟩
    have b3 : Below b w w3 := below_of_grown hg2 (fun c e => by have := (HP.out.lt c e).1; omega) (by omega)
    have hv4 := hv3.set1 (.slice (some ⟨gg, 0, none⟩) (xss.length + 1) cap3)
    clear hown3 hgrow hat hg2
    go_wp2_with fail
    refine (iAdd_any b s x _ _ hv4 h0).mono ?_
    rintro e w5 ⟨rfl, hw5⟩
    have hset : ∀ (p : Addr) (u : Value) (w9 : World), p.block = b → SumP w9 B (.slice (some ⟨gg, 0, none⟩) (xss.length + 1) cap3) (vl ++ [.slice ra r.length rc]) (xss ++ [r]) → SumP (w9.setCell p u) B (.slice (some ⟨gg, 0, none⟩) (xss.length + 1) cap3) (vl ++ [.slice ra r.length rc]) (xss ++ [r]) := fun p u w9 e h =>
      ⟨ownsRow_setCell_below h.own (by rw [e]; omega) u, h.vlen, fun k hk => (h.row k hk).setBelow (by rw [e]; omega) u, h.apart, h.pair⟩
    have H : Hid (∃ v', Var2 w5 b (.int .i64 (addV s x)) v' ∧ SumP w5 B v' (vl ++ [.slice ra r.length rc]) (xss ++ [r]) ∧ Below b w w5) := by
      rw [hw5, addW, addV]
      cases addB s x
      · exact ⟨.slice (some ⟨gg, 0, none⟩) (xss.length + 1) cap3, by simpa using hv4, by simpa using hset _ _ _ rfl hp3, by simpa using b3.setCell (Nat.le_refl _) _⟩
      · exact ⟨.slice (some ⟨gg, 0, none⟩) (xss.length + 1) cap3, by simpa using hv4.set0 _, by simpa using hset _ _ _ rfl (hset _ _ _ rfl hp3), by simpa using (b3.setCell (Nat.le_refl _) _).setCell (Nat.le_refl _) _⟩
    clear hw5 hv4 hset hp3
    go_wp2_with fail
    go_ret
    exact ⟨rfl, H.out⟩

theorem add_ok {s x : Int} (h : addB s x = true) : addV s x = s + x := by rw [addV, if_pos h]
/-- the first k rows may be rows -/
def adTo (xss : List (List Int)) (k : Nat) : Prop := ∀ i, i < k → (∀ j, j < (rowL xss i).length → 0 ≤ nth (rowL xss i) j) ∧ 0 < totR (rowL xss i)
theorem ad_no_num {xss : List (List Int)} {k j : Nat} (hk : k < xss.length) (hj : j < (rowL xss k).length) (hpre : ∀ i, i < j → 0 ≤ nth (rowL xss k) i) (h : addB (totI (rowL xss k) j) (nth (rowL xss k) j) = false) : adB xss = false := by
  rw [← Bool.not_eq_true]
  intro h2
  have ⟨h3, h4⟩ := adB_iff.1 h2
  have h5 := (adB_row h2 hk).2
  have h6 := totI_mono (xs := rowL xss k) (j := j + 1) (k := (rowL xss k).length) (by omega) (h3 k hk).1
  rw [totR] at h5
  rw [totI] at h6
  rw [← Bool.not_eq_true, addB_iff] at h
  exact h ⟨(h3 k hk).1 j hj, by omega⟩
theorem ad_no_row {xss : List (List Int)} {k : Nat} (hk : k < xss.length) (h : addB (matS xss k) (totR (rowL xss k)) = false) : adB xss = false := by
  rw [← Bool.not_eq_true]
  intro h2
  have ⟨h3, h4⟩ := adB_iff.1 h2
  have h5 := adB_row h2 hk
  have h6 := matS_mono (xss := xss) (j := k + 1) (k := xss.length) (by omega) (fun i hi => by have := (h3 i hi).2; omega)
  rw [matS] at h6
  rw [← Bool.not_eq_true, addB_iff] at h
  exact h ⟨by omega, by omega⟩
set_option maxRecDepth 100000 in
set_option maxHeartbeats 1000000 in
theorem iAddUp_any (a : Option Addr) (xss : List (List Int)) (cap : Nat) (w : World) (hx : RdS w a xss) (hs : xss.length + totS xss xss.length ≤ 1048576) :
    Calls Tryz.prog 107 #[.slice a xss.length cap] w fun e w' => ∃ s va vn vc, e = .returned (.tuple #[.agg #[.int .i64 s, .slice va vn vc], .bool (adB xss)]) ∧ (adB xss = true → s = matS xss xss.length ∧ ∃ vl, SumP w' w.heap.size (.slice va vn vc) vl xss) ∧ Below w.heap.size w w' := by
  have hlen := hx.len
  have HX := Lib.hid hx
  have HS := Lib.hid hs
  go_enter Tryz.func107, Tryz.ntmps107
  clear hx hs
  go_wp2_with fail
  go_loopw [12] (fun i wr => ∃ (k : Nat) (v : Value) (vl : List Value), k ≤ xss.length ∧ i = .int .i64 k ∧ Hid (adTo xss k) ∧ 0 ≤ matS xss k ∧ matS xss k ≤ 12 ∧ Var2 wr w.heap.size (.int .i64 0) (.slice none 0 0) ∧ Var2 wr (w.heap.size + 1) (.int .i64 (matS xss k)) v ∧ SumP wr (w.heap.size + 2) v vl (xss.take k) ∧ Below w.heap.size w wr) (fun i _ => xss.length - (intOf i).toNat)
  case atStart => exact ⟨0, .slice none 0 0, [], Nat.zero_le _, rfl, fun j hj => by omega, by simp [matS], by simp [matS], (Var2.new w _ _ _).alloc _, by have h := Var2.new (w.alloc (.cells #[.int .i64 0, .slice none 0 0] 108)) (.int .i64 0) (.slice none 0 0) 108; rw [World.size_alloc] at h; exact h, by rw [List.take_zero]; exact SumP.nil _ _, (by repeat (first | exact Below.refl _ _ | assumption | refine Below.alloc ?_ (by first | exact Nat.le_refl _ | (simp only [World.size_alloc, World.size_setCell, World.size_drew]; omega) | omega) _ | refine Below.setCell ?_ (by first | exact Nat.le_refl _ | (simp only [World.size_alloc, World.size_setCell, World.size_drew]; omega) | omega) _ | refine Below.drew ?_))⟩
  case round =>
    obtain ⟨k, v, vl, hk, rfl, HAD, hm0, hm1, hR, hA, hp, hb⟩ := hrel
    have ⟨av, cv, ev⟩ := hp.form
    obtain ⟨LK, hLK⟩ : ∃ LK, LK = (xss.take k).length := ⟨_, rfl⟩
    rw [← hLK] at ev
    subst ev
    clear hLK
    have hbs := hb.size
    have ⟨⟨zR, cR, dR⟩, fR, gR⟩ := hR
    have ⟨⟨zA, cA, dA⟩, fA, gA⟩ := hA
    have HR := Lib.hid hR
    have HA := Lib.hid hA
    have HP := Lib.hid hp
    by_cases hlt : k < xss.length
    · obtain ⟨b, off, a', cap', rfl, hbl, hc, hr⟩ := (HX.out.below hb).row k hlt
      have k1 : (k : Int) < (xss.length : Int) := by omega
      have hrl := hr.len
      have hrt := row_tot (xss := xss) hlt
      have hrow : (rowL xss k).length ≤ 1048576 := by have := HS.out; omega
      have HRD := Lib.hid hr
      have HT : Hid (xss.take (k+1) = xss.take k ++ [rowL xss k]) := take_snocR hlt
      have HTL : Hid ((xss.take k).length = k) := by rw [Hid, List.length_take]; omega
      have HNR : Hid (∀ j, j < (rowL xss k).length → (∀ i, i < j → 0 ≤ nth (rowL xss k) i) → addB (totI (rowL xss k) j) (nth (rowL xss k) j) = false → adB xss = false) := fun j hj => ad_no_num hlt hj
      have HNM : Hid (addB (matS xss k) (totR (rowL xss k)) = false → adB xss = false) := ad_no_row hlt
      have HNZ : Hid (totR (rowL xss k) = 0 → adB xss = false) := fun h => by
        rw [← Bool.not_eq_true]; intro h2
        have := (adB_row h2 hlt).1; omega
      have HMN : Hid (matS xss (k+1) = matS xss k + totR (rowL xss k)) := rfl
      have HGD : Hid ((∀ j, j < (rowL xss k).length → 0 ≤ nth (rowL xss k) j) → 0 < totR (rowL xss k) → adTo xss (k+1)) := fun h1 h2 i hi => by
        by_cases e : i = k
        · rw [e]; exact ⟨h1, h2⟩
        · exact HAD.out i (by omega)
      obtain ⟨R, hR9⟩ : ∃ R, R = rowL xss k := ⟨_, rfl⟩
      rw [← hR9] at hc hrl hrow HRD HT HNR HNM HNZ HMN HGD
      obtain ⟨M, hM9⟩ : ∃ M, M = matS xss k := ⟨_, rfl⟩
      rw [← hM9] at hm0 hm1 HA cA HNM HMN
      clear hr hrt hR9 hM9 hR hA hp HAD
      obtain ⟨W1, hW1⟩ : ∃ x : World, x = wr := ⟨_, rfl⟩
      subst hW1
      go_wp2_with fail
      go_loopw [18] (fun i wr => ∃ (j : Nat) (u : Value), j ≤ R.length ∧ i = .int .i64 j ∧ Hid (∀ i, i < j → 0 ≤ nth R i) ∧ 0 ≤ totI R j ∧ totI R j ≤ 12 ∧ Var2 wr W1.heap.size (.int .i64 (totI R j)) u ∧ OwnI wr (W1.heap.size + 1) u (R.take j) ∧ Below W1.heap.size W1 wr) (fun i _ => R.length - (intOf i).toNat)
      case atStart => exact ⟨0, .slice none 0 0, Nat.zero_le _, rfl, fun j hj => by omega, by simp [totI], by simp [totI], Var2.new W1 _ _ _, by rw [List.take_zero]; exact OwnI.nil _ _, (by repeat (first | exact Below.refl _ _ | assumption | refine Below.alloc ?_ (by first | exact Nat.le_refl _ | (simp only [World.size_alloc, World.size_setCell, World.size_drew]; omega) | omega) _ | refine Below.setCell ?_ (by first | exact Nat.le_refl _ | (simp only [World.size_alloc, World.size_setCell, World.size_drew]; omega) | omega) _ | refine Below.drew ?_))⟩
      case round =>
        obtain ⟨j, u, hj, rfl, HNN, ht0, ht1, hQ, ho, hbq⟩ := hrel
        have hbqs := hbq.size
        have ⟨⟨zQ, cQ, dQ⟩, fQ, gQ⟩ := hQ
        have hR2 := HR.out.below hbq
        have hA2 := HA.out.below hbq
        have ⟨⟨zR2, cR2, dR2⟩, fR2, gR2⟩ := hR2
        have ⟨⟨zA2, cA2, dA2⟩, fA2, gA2⟩ := hA2
        have HR2 := Lib.hid hR2
        have HA2 := Lib.hid hA2
        clear hR2 hA2
        by_cases hlt2 : j < R.length
        · obtain ⟨b2, off2, rfl, hbl2, hc2⟩ := (HRD.out.below hbq).cell j hlt2
          have j1 : (j : Int) < (R.length : Int) := by omega
          have htk : R.take (j+1) = R.take j ++ [nth R j] := by
            rw [List.take_succ_eq_append_getElem hlt2, nth_get _ _ hlt2]
          have HTK := Lib.hid htk
          have hlj : (R.take j).length ≤ 1048576 := by rw [List.length_take]; omega
          have HTI : Hid (totI R (j+1) = totI R j + nth R j) := rfl
          have HNF := Lib.hid (HNR.out j hlt2 HNN.out)
          obtain ⟨Z, hZ⟩ : ∃ Z, Z = nth R j := ⟨_, rfl⟩
          have HZ := Lib.hid hZ
          rw [← hZ] at hc2 HTK HTI HNF
          obtain ⟨S, hS⟩ : ∃ S, S = totI R j := ⟨_, rfl⟩
          rw [← hS] at ht0 ht1 cQ hQ HTI HNF
          have HQ := Lib.hid hQ
          have HO := Lib.hid ho
          have hPut := iPut_any W1.heap.size S Z u (R.take j) wr HQ.out ⟨ht0, ht1⟩ HO.out hlj
          have HPUT := Lib.hid hPut
          clear htk hZ hS hQ ho hPut
          cases had : addB S Z
          · have H := HNF.out had
            have HF := Lib.hid had
            have HH := Lib.hid H
            clear had H
            go_wp2_with fail
            refine HPUT.out.mono ?_
            rintro e w5 ⟨rfl, v5, hv5, ho5, hb5⟩
            rw [HF.out]
            have b5 : Below W1.heap.size W1 w5 := hbq.trans hb5
            have hR5 := HR.out.below b5
            have hA5 := HA.out.below b5
            have ⟨⟨zR5, cR5, dR5⟩, fR5, gR5⟩ := hR5
            have ⟨⟨zA5, cA5, dA5⟩, fA5, gA5⟩ := hA5
            have bw5 := hb.trans (b5.mono hbs)
            clear hv5 ho5 hb5
            go_wp2_with fail
            have hR7 := hR5.set (.int .i64 M) (.slice av LK cv)
            have b7 := (bw5.setCell (p := ⟨w.heap.size, 0, none⟩) (Nat.le_refl _) (.int .i64 M)).setCell (p := ⟨w.heap.size, 1, none⟩) (Nat.le_refl _) (.slice av LK cv)
            refine bodyPost_ret (v := .tuple #[.agg #[.int .i64 M, .slice av LK cv], .bool false]) (by have ⟨⟨_, q1, q2⟩, _, _⟩ := hR7; simp [results, Tryz.results107, go_sem, q1, q2]) rfl ?_
            exact ⟨M, av, LK, cv, by rw [HH.out], (by intro h; rw [HH.out] at h; cases h), b7⟩
          · have hge := addB_iff.1 had
            have HF := Lib.hid had
            have HV := Lib.hid (add_ok had)
            clear had HNF
            go_wp2_with fail
            refine HPUT.out.mono ?_
            rintro e w5 ⟨rfl, v5, hv5, ho5, hb5⟩
            rw [HF.out]
            rw [HV.out] at hv5
            have b5 : Below W1.heap.size W1 w5 := hbq.trans hb5
            go_wp2_with fail
            go_roundw
            case rel =>
              refine ⟨j + 1, v5, by omega, by go_num, fun i hi => ?_, by rw [HTI.out]; omega, by rw [HTI.out]; omega, by rw [HTI.out]; exact hv5, by rw [HTK.out]; exact ho5, b5⟩
              by_cases e : i = j
              · rw [e, ← HZ.out]; omega
              · exact HNN.out i (by omega)
            case measure => simp [intOf]; omega
        · obtain rfl : j = R.length := by omega
          have HTR : Hid (totI R R.length = totR R) := rfl
          rw [HTR.out] at ht0 ht1 cQ hQ
          rw [List.take_length] at ho
          obtain ⟨au, cu, rfl⟩ := ho.form
          have HO := Lib.hid ho
          have HP2 := Lib.hid (HP.out.below hbq (Nat.le_refl _))
          obtain ⟨S, hS⟩ : ∃ S, S = totR R := ⟨_, rfl⟩
          have HSS := Lib.hid hS
          rw [← hS] at ht0 ht1 cQ hQ HNM HNZ HMN HGD
          have HQ := Lib.hid hQ
          have hlk : (xss.take k).length ≤ 1048576 := by rw [HTL.out]; have := HS.out; omega
          have bwq := hb.trans (hbq.mono hbs)
          clear hS hQ ho
          by_cases hz : S = 0
          · have hzz : (S == 0) = true := by simp [hz]
            have HH := Lib.hid (HNZ.out hz)
            clear hz
            go_wp2_with fail
            have hR7 := HR2.out.set (.int .i64 M) (.slice av LK cv)
            have b7 := (bwq.setCell (p := ⟨w.heap.size, 0, none⟩) (Nat.le_refl _) (.int .i64 M)).setCell (p := ⟨w.heap.size, 1, none⟩) (Nat.le_refl _) (.slice av LK cv)
            refine bodyPost_ret (v := .tuple #[.agg #[.int .i64 M, .slice av LK cv], .bool false]) (by have ⟨⟨_, q1, q2⟩, _, _⟩ := hR7; simp [results, Tryz.results107, go_sem, q1, q2]) rfl ?_
            exact ⟨M, av, LK, cv, by rw [HH.out], (by intro h; rw [HH.out] at h; cases h), b7⟩
          · have hzz : (S == 0) = false := by simp [hz]
            have hPut := iPutS_any (w.heap.size + 1) M S (.slice av LK cv) vl (xss.take k) R au cu (w.heap.size + 2) (W1.heap.size + 1) wr HA2.out ⟨hm0, hm1⟩ HP2.out HO.out (by omega) (by omega) (by omega) (fun c e => by have := HP.out.blk.1 c e; omega) (fun i hi c e => by have := HP.out.blk.2 i hi c e; omega) hlk
            rw [← HSS.out] at hPut
            have HPUT := Lib.hid hPut
            clear hPut
            cases had : addB M S
            · have HF := Lib.hid had
              have HH := Lib.hid (HNM.out had)
              clear had hz
              go_wp2_with fail
              refine HPUT.out.mono ?_
              rintro e w5 ⟨rfl, v5, hv5, ho5, hb5⟩
              rw [HF.out]
              have ⟨⟨zA5, cA5, dA5⟩, fA5, gA5⟩ := hv5
              have hR5 : Var2 w5 w.heap.size (.int .i64 0) (.slice none 0 0) := ⟨⟨by have := hb5.size; omega, (hb5.cell (p := ⟨w.heap.size, 0, none⟩) (show w.heap.size < w.heap.size + 1 by omega)).trans cR2, (hb5.cell (p := ⟨w.heap.size, 1, none⟩) (show w.heap.size < w.heap.size + 1 by omega)).trans dR2⟩, (hb5.frozen (p := ⟨w.heap.size, 0, none⟩) (show w.heap.size < w.heap.size + 1 by omega)).trans fR2, (hb5.frozen (p := ⟨w.heap.size, 1, none⟩) (show w.heap.size < w.heap.size + 1 by omega)).trans gR2⟩
              have ⟨⟨zR5, cR5, dR5⟩, fR5, gR5⟩ := hR5
              have bw5 := bwq.trans (hb5.mono (by omega : w.heap.size ≤ w.heap.size + 1))
              obtain ⟨D, hD⟩ : ∃ D, D = addV M S := ⟨_, rfl⟩
              rw [← hD] at cA5
              obtain ⟨a5, c5, e5⟩ := ho5.form
              obtain ⟨L5, hL5⟩ : ∃ L5, L5 = (xss.take k ++ [R]).length := ⟨_, rfl⟩
              rw [← hL5] at e5
              rw [e5] at dA5
              clear hL5 e5
              clear hv5 ho5 hb5 hD
              go_wp2_with fail
              have hR7 := hR5.set (.int .i64 D) (.slice a5 L5 c5)
              have b7 := (bw5.setCell (p := ⟨w.heap.size, 0, none⟩) (Nat.le_refl _) (.int .i64 D)).setCell (p := ⟨w.heap.size, 1, none⟩) (Nat.le_refl _) (.slice a5 L5 c5)
              refine bodyPost_ret (v := .tuple #[.agg #[.int .i64 D, .slice a5 L5 c5], .bool false]) (by have ⟨⟨_, q1, q2⟩, _, _⟩ := hR7; simp [results, Tryz.results107, go_sem, q1, q2]) rfl ?_
              exact ⟨D, a5, L5, c5, by rw [HH.out], (by intro h; rw [HH.out] at h; cases h), b7⟩
            · have hge := addB_iff.1 had
              have HF := Lib.hid had
              have HV := Lib.hid (add_ok had)
              clear had
              go_wp2_with fail
              refine HPUT.out.mono ?_
              rintro e w5 ⟨rfl, v5, hv5, ho5, hb5⟩
              rw [HF.out]
              rw [HV.out] at hv5
              have hR5 : Var2 w5 w.heap.size (.int .i64 0) (.slice none 0 0) := ⟨⟨by have := hb5.size; omega, (hb5.cell (p := ⟨w.heap.size, 0, none⟩) (show w.heap.size < w.heap.size + 1 by omega)).trans cR2, (hb5.cell (p := ⟨w.heap.size, 1, none⟩) (show w.heap.size < w.heap.size + 1 by omega)).trans dR2⟩, (hb5.frozen (p := ⟨w.heap.size, 0, none⟩) (show w.heap.size < w.heap.size + 1 by omega)).trans fR2, (hb5.frozen (p := ⟨w.heap.size, 1, none⟩) (show w.heap.size < w.heap.size + 1 by omega)).trans gR2⟩
              have bw5 := bwq.trans (hb5.mono (by omega : w.heap.size ≤ w.heap.size + 1))
              have HG2 := Lib.hid (HGD.out HNN.out (by omega))
              go_wp2_with fail
              go_roundw
              case rel => exact ⟨k + 1, v5, _, by omega, by go_num, HG2.out, by rw [HMN.out]; omega, by rw [HMN.out]; omega, hR5, by rw [HMN.out]; exact hv5, by rw [HT.out]; exact ho5, bw5⟩
              case measure => simp [intOf]; omega
    · obtain rfl : k = xss.length := by omega
      have HH : Hid (adB xss = true) := adB_iff.2 ⟨HAD.out, hm1⟩
      obtain ⟨M, hM9⟩ : ∃ M, M = matS xss xss.length := ⟨_, rfl⟩
      have HM := Lib.hid hM9
      rw [← hM9] at hm0 hm1 HA cA
      clear hM9 hR hA hp
      go_wp2_with fail
      have hR7 := HR.out.set (.int .i64 M) (.slice av LK cv)
      have b7 := (hb.setCell (p := ⟨w.heap.size, 0, none⟩) (Nat.le_refl _) (.int .i64 M)).setCell (p := ⟨w.heap.size, 1, none⟩) (Nat.le_refl _) (.slice av LK cv)
      refine bodyPost_ret (v := .tuple #[.agg #[.int .i64 M, .slice av LK cv], .bool true]) (by have ⟨⟨_, q1, q2⟩, _, _⟩ := hR7; simp [results, Tryz.results107, go_sem, q1, q2]) rfl ?_
      refine ⟨M, av, LK, cv, by rw [HH.out], fun _ => ⟨HM.out, vl, ?_⟩, b7⟩
      have h := HP.out
      rw [List.take_length] at h
      have hset : ∀ (p : Addr) (u : Value) (w9 : World), p.block = w.heap.size → SumP w9 (w.heap.size + 2) (.slice av LK cv) vl xss → SumP (w9.setCell p u) (w.heap.size + 2) (.slice av LK cv) vl xss := fun p u w9 e h =>
        ⟨ownsRow_setCell_below h.own (by rw [e]; omega) u, h.vlen, fun k hk => (h.row k hk).setBelow (by rw [e]; omega) u, h.apart, h.pair⟩
      exact (hset _ _ _ rfl (hset _ _ _ rfl h)).mono (by omega)

set_option maxRecDepth 100000 in
theorem isUpper_any (a : Option Addr) (xss : List (List Int)) (cap : Nat) (w : World) (hx : RdC w a xss) :
    Calls Tryz.prog 108 #[.agg #[.slice a xss.length cap]] w fun e w' => e = .returned (.bool (upB xss)) ∧ Below w.heap.size w w' := by
  have hlen := hx.rd.len
  have HX := Lib.hid hx
  have b1 : Below w.heap.size w (w.alloc (.cells #[.slice a xss.length cap] 45)) := (by repeat (first | exact Below.refl _ _ | assumption | refine Below.alloc ?_ (by first | exact Nat.le_refl _ | (simp only [World.size_alloc, World.size_setCell, World.size_drew]; omega) | omega) _ | refine Below.setCell ?_ (by first | exact Nat.le_refl _ | (simp only [World.size_alloc, World.size_setCell, World.size_drew]; omega) | omega) _ | refine Below.drew ?_))
  clear hx
  go_enter Tryz.func108, Tryz.ntmps108
  go_wp2_with fail
  go_loop [10] (fun i => ∃ k : Nat, k ≤ xss.length ∧ i = .int .i64 k ∧ Hid (∀ j, j < k → (rowL xss j).length = xss.length ∧ ∀ q, q < j → atM xss j q = 0)) (fun i => xss.length - (intOf i).toNat)
  case atStart => exact ⟨0, Nat.zero_le _, rfl, fun j hj => by omega⟩
  case round =>
    obtain ⟨k, hk, rfl, HA⟩ := hrel
    by_cases hlt : k < xss.length
    · obtain ⟨b, off, a', cap', rfl, hbl, hc, hr, hcp⟩ := (HX.out.below b1).row hlt
      have k1 : (k : Int) < (xss.length : Int) := by omega
      by_cases hq : (rowL xss k).length = xss.length
      · have hqq : (((rowL xss k).length : Int) != (xss.length : Int)) = false := by simp [hq]
        have HQ := Lib.hid hq
        obtain ⟨b2, off2, rfl, hbl2, hc2⟩ := hr.cell 0 (by omega)
        have HR := Lib.hid hr
        have k2 : k ≤ cap' := by omega
        have k3 : k ≤ (rowL xss k).length := by omega
        have hrl := hr.len
        clear hq hr hc2
        go_wp2_with fail
        go_loop [25] (fun i => ∃ q : Nat, q ≤ k ∧ i = .int .i64 q ∧ Hid (∀ j, j < q → atM xss k j = 0)) (fun i => k - (intOf i).toNat)
        case atStart => exact ⟨0, Nat.zero_le _, rfl, fun j hj => by omega⟩
        case round =>
          obtain ⟨q, hq2, rfl, HU⟩ := hrel
          by_cases hlt2 : q < k
          · obtain ⟨b3, off3, e3, hbl3, hc3⟩ := HR.out.cell q (by omega)
            simp only [Option.some.injEq, Addr.mk.injEq, and_true] at e3
            obtain ⟨rfl, rfl⟩ := e3
            have q1 : (q : Int) < (k : Int) := by omega
            by_cases hz : nth (rowL xss k) q = 0
            · have hzz : (nth (rowL xss k) q != 0) = false := by simp [hz]
              have HZ : Hid (atM xss k q = 0) := hz
              clear hz
              go_wp2_with fail
              go_round
              case rel =>
                refine ⟨q + 1, by omega, by go_num, fun j hj => ?_⟩
                by_cases e : j = q
                · rw [e]; exact HZ.out
                · exact HU.out j (by omega)
              case measure => simp [intOf]; omega
            · have hzz : (nth (rowL xss k) q != 0) = true := by simp [hz]
              have H : Hid (upB xss = false) := by
                rw [Hid, ← Bool.not_eq_true, upB_iff]
                intro h
                exact hz ((h k hlt).2 q hlt2)
              clear hz
              go_wp2_with fail
              go_ret
              exact ⟨ret_bool H.out.symm, (by repeat (first | exact Below.refl _ _ | assumption | refine Below.alloc ?_ (by first | exact Nat.le_refl _ | (simp only [World.size_alloc, World.size_setCell, World.size_drew]; omega) | omega) _ | refine Below.setCell ?_ (by first | exact Nat.le_refl _ | (simp only [World.size_alloc, World.size_setCell, World.size_drew]; omega) | omega) _ | refine Below.drew ?_))⟩
          · obtain rfl : q = k := by omega
            go_wp2_with fail
            go_round
            case rel =>
              refine ⟨q + 1, by omega, by go_num, fun j hj => ?_⟩
              by_cases e : j = q
              · rw [e]; exact ⟨HQ.out, HU.out⟩
              · exact HA.out j (by omega)
            case measure => simp [intOf]; omega
      · have hqq : (((rowL xss k).length : Int) != (xss.length : Int)) = true := by simp; omega
        have H : Hid (upB xss = false) := by
          rw [Hid, ← Bool.not_eq_true, upB_iff]
          intro h
          exact hq (h k hlt).1
        clear hq hr
        go_wp2_with fail
        go_ret
        exact ⟨ret_bool H.out.symm, (by repeat (first | exact Below.refl _ _ | assumption | refine Below.alloc ?_ (by first | exact Nat.le_refl _ | (simp only [World.size_alloc, World.size_setCell, World.size_drew]; omega) | omega) _ | refine Below.setCell ?_ (by first | exact Nat.le_refl _ | (simp only [World.size_alloc, World.size_setCell, World.size_drew]; omega) | omega) _ | refine Below.drew ?_))⟩
    · obtain rfl : k = xss.length := by omega
      have H : Hid (upB xss = true) := upB_iff.2 HA.out
      go_wp2_with fail
      go_ret
      exact ⟨ret_bool H.out.symm, (by repeat (first | exact Below.refl _ _ | assumption | refine Below.alloc ?_ (by first | exact Nat.le_refl _ | (simp only [World.size_alloc, World.size_setCell, World.size_drew]; omega) | omega) _ | refine Below.setCell ?_ (by first | exact Nat.le_refl _ | (simp only [World.size_alloc, World.size_setCell, World.size_drew]; omega) | omega) _ | refine Below.drew ?_))⟩

def colF (xss : List (List Int)) (k q : Nat) (a b : Nat) : Int := if b < k ∨ (b = k ∧ a < q) then atM xss b a else 0
theorem colF_end {xss : List (List Int)} {n : Nat} : sqM (colF xss n 0) n n = sqM (fun a b => atM xss b a) n n :=
  sqM_congr (fun a ha b hb => by rw [colF, if_pos (.inl hb)])
theorem colF_next {xss : List (List Int)} {n k : Nat} : sqM (colF xss k n) n n = sqM (colF xss (k+1) 0) n n :=
  sqM_congr (fun a ha b hb => by
    rw [colF, colF]
    by_cases h : b < k + 1
    · rw [if_pos (by omega), if_pos (.inl h)]
    · rw [if_neg (by omega), if_neg (by omega)])
theorem colF_zero {xss : List (List Int)} {n : Nat} : sqM (fun _ _ => 0) n n = sqM (colF xss 0 0) n n :=
  sqM_congr (fun a ha b hb => by rw [colF, if_neg (by omega)])
theorem colF_step {xss : List (List Int)} {n k q : Nat} (hk : k < n) (hq : q < n) : setM (sqM (colF xss k q) n n) q k (atM xss k q) = sqM (colF xss k (q+1)) n n := by
  rw [setM_sq hq hk]
  refine sqM_congr (fun a ha b hb => ?_)
  rw [colF, colF]
  by_cases h : a = q ∧ b = k
  · obtain ⟨rfl, rfl⟩ := h
    rw [if_pos ⟨rfl, rfl⟩, if_pos (.inr ⟨rfl, by omega⟩)]
  · rw [if_neg h]
    by_cases h2 : b < k ∨ (b = k ∧ a < q)
    · rw [if_pos h2, if_pos (by omega)]
    · rw [if_neg h2, if_neg (by omega)]
set_option maxRecDepth 100000 in
set_option maxHeartbeats 1000000 in
theorem columnsOf_any (a : Option Addr) (xss : List (List Int)) (cap : Nat) (w : World) (hx : RdS w a xss) (h12 : xss.length ≤ 12) (hl : ∀ k, k < xss.length → (rowL xss k).length = xss.length) :
    Calls Tryz.prog 109 #[.agg #[.slice a xss.length cap]] w fun e w' => ∃ g vl, e = .returned (.slice (some ⟨g, 0, none⟩) xss.length xss.length) ∧ RowsP w' w.heap.size (.slice (some ⟨g, 0, none⟩) xss.length xss.length) vl (colsL xss) ∧ Below w.heap.size w w' := by
  have hlen := hx.len
  have HX := Lib.hid hx
  have HL := Lib.hid hl
  clear hx hl
  go_enter Tryz.func109, Tryz.ntmps109
  go_wp2_with fail
  refine (zeroRows_any xss.length _ h12).mono ?_
  rintro e w1 ⟨g, vl0, rfl, hro0, hb0⟩
  have b1 : Below w.heap.size w w1 := Below.trans (by repeat (first | exact Below.refl _ _ | assumption | refine Below.alloc ?_ (by first | exact Nat.le_refl _ | (simp only [World.size_alloc, World.size_setCell, World.size_drew]; omega) | omega) _ | refine Below.setCell ?_ (by first | exact Nat.le_refl _ | (simp only [World.size_alloc, World.size_setCell, World.size_drew]; omega) | omega) _ | refine Below.drew ?_)) (hb0.mono (by first | (simp only [World.size_alloc, World.size_setCell, World.size_drew]; omega) | omega))
  have hro1 := hro0.mono (B' := w.heap.size) (by simp)
  rw [colF_zero (xss := xss)] at hro1
  have hc0 := (hb0.cell (p := ⟨w.heap.size, 0, none⟩) (by simp)).trans (show _ = some (Value.slice a xss.length cap) by simp)
  have hs1 := b1.size
  obtain ⟨N, hN⟩ : ∃ N, N = xss.length := ⟨_, rfl⟩
  have HN := Lib.hid hN
  rw [← hN] at hlen h12 hro1 hc0 ⊢
  have HRO := Lib.hid hro1
  clear hro0 hro1 hb0 hN
  go_wp2_with fail
  go_loopw [15] (fun i wr => ∃ (k : Nat) (vl : List Value), k ≤ N ∧ i = .int .i64 k ∧ RowsP wr w.heap.size (.slice (some ⟨g, 0, none⟩) N N) vl (sqM (colF xss k 0) N N) ∧ Below w.heap.size w wr) (fun i _ => N - (intOf i).toNat)
  case atStart => exact ⟨0, _, Nat.zero_le _, rfl, HRO.out, b1⟩
  case round =>
    obtain ⟨k, vl, hk, rfl, hro, hb⟩ := hrel
    have hbs := hb.size
    have HR := Lib.hid hro
    clear hro
    by_cases hlt : k < N
    · obtain ⟨b, off, a', cap', rfl, hbl, hc, hr⟩ := HX.out.row k (by rw [← HN.out]; exact hlt)
      have hrn := HL.out k (by rw [← HN.out]; exact hlt)
      rw [← HN.out] at hrn
      obtain ⟨b2, off2, rfl, hbl2, hc2⟩ := hr.cell 0 (by omega)
      rw [hrn] at hc
      have hc1 := (hb.cell (p := ⟨b, off + k, none⟩) hbl).trans hc
      have HRN := Lib.hid hrn
      have HRD := Lib.hid hr
      have hbl1 : b < wr.heap.size := by omega
      have k1 : (k : Int) < (N : Int) := by omega
      clear hrn hr hc2 hc
      go_wp2_with fail
      go_loopw [22] (fun i wq => ∃ (q : Nat) (vl : List Value), q ≤ N ∧ i = .int .i64 q ∧ RowsP wq w.heap.size (.slice (some ⟨g, 0, none⟩) N N) vl (sqM (colF xss k q) N N) ∧ Below w.heap.size w wq) (fun i _ => N - (intOf i).toNat)
      case atStart => exact ⟨0, _, Nat.zero_le _, rfl, HR.out, hb⟩
      case round =>
        obtain ⟨q, vl2, hq, rfl, hro2, hb2⟩ := hrel
        by_cases hlt2 : q < N
        · obtain ⟨b3, off3, e3, hbl3, hc3⟩ := (HRD.out.below hb2).cell q (by rw [HRN.out]; exact hlt2)
          simp only [Option.some.injEq, Addr.mk.injEq, and_true] at e3
          obtain ⟨rfl, rfl⟩ := e3
          obtain ⟨g4, e4, hg4, hg5, hc4, hf4⟩ := hro2.outer (k := q) (by rw [sqM_len]; exact hlt2)
          simp only [Option.some.injEq, Addr.mk.injEq, and_true] at e4
          subst e4
          obtain ⟨g6, c6, e6, hg6, hg7, hc6, hf6, hnew⟩ := hro2.num (i := q) (j := k) (by rw [sqM_len]; exact hlt2) (by rw [sqM_rlen hlt2]; exact hlt)
          have hn2 := hnew (atM xss k q)
          rw [colF_step hlt hlt2] at hn2
          rw [e6, sqM_rlen hlt2] at hc4
          have HN2 := Lib.hid hn2
          have q1 : (q : Int) < (N : Int) := by omega
          have hat : nth (rowL xss k) q = atM xss k q := rfl
          rw [hat] at hc3
          have b7 := hb2.setCell (p := ⟨g6, k, none⟩) hg6 (.int .i64 (atM xss k q))
          clear hro2 hnew hn2 hat e6
          go_wp2_with fail
          go_roundw
          case rel => exact ⟨q + 1, vl2, by omega, by go_num, HN2.out, b7⟩
          case measure => simp [intOf]; omega
        · obtain rfl : q = N := by omega
          rw [colF_next] at hro2
          go_wp2_with fail
          go_roundw
          case rel => exact ⟨k + 1, _, by omega, by go_num, hro2, hb2⟩
          case measure => simp [intOf]; omega
    · obtain rfl : k = N := by omega
      have HR2 := HR.out
      rw [colF_end] at HR2
      have HE : Hid (colsL xss = sqM (fun a b => atM xss b a) k k) := by rw [Hid, colsL_sq, ← HN.out]
      have HR3 := Lib.hid HR2
      clear HR2
      go_wp2_with fail
      go_ret
      exact ⟨g, vl, by rw [← HN.out]; rfl, by rw [HE.out, ← HN.out]; exact HR3.out, hb⟩

theorem totS_sq {f : Nat → Nat → Int} {n m : Nat} : ∀ {k : Nat}, k ≤ n → totS (sqM f n m) k = k * m
  | 0, _ => by simp [totS]
  | k+1, h => by rw [totS, totS_sq (by omega), sqM_rlen (by omega), Nat.succ_mul]
theorem sq_small {f : Nat → Nat → Int} {n : Nat} (h : n ≤ 13) : (sqM f n n).length + totS (sqM f n n) (sqM f n n).length ≤ 1048576 := by
  rw [sqM_len, totS_sq (Nat.le_refl _)]
  have := Nat.mul_le_mul h h
  omega
set_option maxRecDepth 100000 in
set_option maxHeartbeats 1000000 in
theorem rowsOf_any (a : Option Addr) (xss : List (List Int)) (cap : Nat) (w : World) (hx : RdC w a xss) (hs : xss.length + totS xss xss.length ≤ 1048576) :
    Calls Tryz.prog 82 #[.agg #[.slice a xss.length cap]] w fun e w' => ∃ s va vn vc, e = .returned (.tuple #[.agg #[.int .i64 s, .slice va vn vc], .bool (mxB xss)]) ∧ (mxB xss = true → s = matS xss xss.length ∧ ∃ vl, SumP w' w.heap.size (.slice va vn vc) vl xss) ∧ Below w.heap.size w w' := by
  have hlen := hx.rd.len
  have HX := Lib.hid hx
  have HS := Lib.hid hs
  clear hx hs
  go_enter Tryz.func82, Tryz.ntmps82
  obtain ⟨W0, hW0⟩ : ∃ x : World, x = (w.alloc (.cells #[.slice a xss.length cap] 45)).alloc (.cells #[.int .i64 0, .slice none 0 0] 108) := ⟨_, rfl⟩
  have HW0 := Lib.hid hW0
  have b0 : Below w.heap.size w W0 := by rw [hW0]; exact (by repeat (first | exact Below.refl _ _ | assumption | refine Below.alloc ?_ (by first | exact Nat.le_refl _ | (simp only [World.size_alloc, World.size_setCell, World.size_drew]; omega) | omega) _ | refine Below.setCell ?_ (by first | exact Nat.le_refl _ | (simp only [World.size_alloc, World.size_setCell, World.size_drew]; omega) | omega) _ | refine Below.drew ?_))
  have c0 : W0.cell? ⟨w.heap.size, 0, none⟩ = some (.slice a xss.length cap) := by rw [hW0]; simp
  have hR0 : Var2 W0 (w.heap.size + 1) (.int .i64 0) (.slice none 0 0) := by
    have h := Var2.new (w.alloc (.cells #[.slice a xss.length cap] 45)) (.int .i64 0) (.slice none 0 0) 108
    rw [World.size_alloc] at h
    rw [hW0]; exact h
  have hz0 : w.heap.size + 2 = W0.heap.size := by rw [hW0]; simp
  have HCALL := Lib.hid (iAddUp_any a xss cap W0 (HX.out.below b0).rd HS.out)
  rw [hW0] at HCALL
  clear hW0
  go_wp2_with fail
  refine HCALL.out.mono ?_
  rintro e w1 ⟨s, va, vn, vc, rfl, hok, hb1⟩
  rw [← HW0.out] at hok hb1
  have b1 : Below w.heap.size w w1 := b0.trans (hb1.mono (by omega))
  have c1 := (hb1.cell (p := ⟨w.heap.size, 0, none⟩) (show w.heap.size < W0.heap.size by omega)).trans c0
  have hR1 := hR0.below hb1
  have hs1 := hb1.size
  clear hb1 b0 c0 hR0 HCALL HW0
  obtain ⟨W2, hW2⟩ : ∃ x : World, x = w1.alloc (.cells #[.int .i64 s, .slice va vn vc] 108) := ⟨_, rfl⟩
  have HW2 := Lib.hid hW2
  have bb2 : Below w1.heap.size w1 W2 := by rw [hW2]; exact (by repeat (first | exact Below.refl _ _ | assumption | refine Below.alloc ?_ (by first | exact Nat.le_refl _ | (simp only [World.size_alloc, World.size_setCell, World.size_drew]; omega) | omega) _ | refine Below.setCell ?_ (by first | exact Nat.le_refl _ | (simp only [World.size_alloc, World.size_setCell, World.size_drew]; omega) | omega) _ | refine Below.drew ?_))
  have b2 : Below w.heap.size w W2 := b1.trans (bb2.mono b1.size)
  have hA2 : Box2 W2 w1.heap.size (.int .i64 s) (.slice va vn vc) := by rw [hW2]; exact Box2.new _ _ _ _
  have hR2 := hR1.below bb2
  have c2 := (bb2.cell (p := ⟨w.heap.size, 0, none⟩) (show w.heap.size < w1.heap.size by omega)).trans c1
  have hs2 : w1.heap.size ≤ W2.heap.size := bb2.size
  clear hR1 c1
  subst hW2
  have ⟨zA2, cA2, dA2⟩ := hA2
  have ⟨⟨zR2, cR2, dR2⟩, fR2, gR2⟩ := hR2
  cases had : adB xss
  · have HF := Lib.hid had
    have HM : Hid (mxB xss = false) := by simp [Hid, mxB, had]
    clear had hok
    go_wp2_with fail
    have hR7 := hR2.set (.int .i64 s) (.slice va vn vc)
    have b7 := (b2.setCell (p := ⟨w.heap.size + 1, 0, none⟩) (by simp) (.int .i64 s)).setCell (p := ⟨w.heap.size + 1, 1, none⟩) (by simp) (.slice va vn vc)
    refine bodyPost_ret (v := .tuple #[.agg #[.int .i64 s, .slice va vn vc], .bool false]) (by have ⟨⟨_, q1, q2⟩, _, _⟩ := hR7; simp [results, Tryz.results82, go_sem, q1, q2]) rfl ?_
    exact ⟨s, va, vn, vc, by rw [HM.out], (by intro h; rw [HM.out] at h; cases h), b7⟩
  · have HF := Lib.hid had
    have HOK := Lib.hid (hok had)
    have h12 := adB_small had
    clear had hok
    have HUC := Lib.hid (isUpper_any a xss cap _ (HX.out.below b2))
    cases hup : upB xss
    · have HU := Lib.hid hup
      have HM : Hid (mxB xss = false) := by simp [Hid, mxB, hup]
      clear hup
      go_wp2_with fail
      refine HUC.out.mono ?_
      rintro e w3 ⟨rfl, hb3⟩
      rw [HU.out]
      have hA3 := hA2.below hb3
      have hR3 := hR2.below hb3
      have b3 := b2.trans (hb3.mono b2.size)
      have ⟨zA3, cA3, dA3⟩ := hA3
      have ⟨⟨zR3, cR3, dR3⟩, fR3, gR3⟩ := hR3
      clear hb3
      go_wp2_with fail
      have hR7 := hR3.set (.int .i64 s) (.slice va vn vc)
      have b7 := (b3.setCell (p := ⟨w.heap.size + 1, 0, none⟩) (by simp) (.int .i64 s)).setCell (p := ⟨w.heap.size + 1, 1, none⟩) (by simp) (.slice va vn vc)
      refine bodyPost_ret (v := .tuple #[.agg #[.int .i64 s, .slice va vn vc], .bool false]) (by have ⟨⟨_, q1, q2⟩, _, _⟩ := hR7; simp [results, Tryz.results82, go_sem, q1, q2]) rfl ?_
      exact ⟨s, va, vn, vc, by rw [HM.out], (by intro h; rw [HM.out] at h; cases h), b7⟩
    · have HU := Lib.hid hup
      have HL : Hid (∀ k, k < xss.length → (rowL xss k).length = xss.length) := fun k hk => (upB_iff.1 hup k hk).1
      have HM : Hid (mxB xss = adB (colsL xss)) := by rw [Hid, mxB, HF.out, hup]; rfl
      clear hup
      go_wp2_with fail
      refine HUC.out.mono ?_
      rintro e w3 ⟨rfl, hb3⟩
      rw [HU.out]
      have hA3 := hA2.below hb3
      have hR3 := hR2.below hb3
      have b3 := b2.trans (hb3.mono b2.size)
      have hs3 : w1.heap.size ≤ w3.heap.size := by have := hb3.size; simp at this; omega
      have c3 := (hb3.cell (p := ⟨w.heap.size, 0, none⟩) (by simp; omega)).trans c2
      have ⟨zA3, cA3, dA3⟩ := hA3
      have ⟨⟨zR3, cR3, dR3⟩, fR3, gR3⟩ := hR3
      have bb3 : Below w1.heap.size w1 w3 := bb2.trans (hb3.mono (by simp))
      clear hb3
      go_wp2_with fail
      refine (columnsOf_any a xss cap _ (HX.out.below b3).rd h12 HL.out).mono ?_
      rintro e w4 ⟨g, vlc, rfl, hro, hb4⟩
      have hA4 := hA3.below hb4
      have hR4 := hR3.below hb4
      have b4 := b3.trans (hb4.mono b3.size)
      have hs4 : w3.heap.size ≤ w4.heap.size := hb4.size
      have ⟨zA4, cA4, dA4⟩ := hA4
      have ⟨⟨zR4, cR4, dR4⟩, fR4, gR4⟩ := hR4
      have hAU := iAddUp_any (some ⟨g, 0, none⟩) (colsL xss) xss.length w4 hro.o.rd (by rw [colsL_sq]; exact sq_small (by omega))
      rw [← HM.out, colsL_len] at hAU
      have HAU := Lib.hid hAU
      have bb4 : Below w1.heap.size w1 w4 := bb3.trans (hb4.mono hs3)
      clear hb4 hro hAU
      go_wp2_with fail
      refine HAU.out.mono ?_
      rintro e w5 ⟨s5, va5, vn5, vc5, rfl, _, hb5⟩
      have hA5 := hA4.below hb5
      have hR5 := hR4.below hb5
      have b5 := b4.trans (hb5.mono b4.size)
      have bb5 : Below w1.heap.size w1 w5 := bb4.trans (hb5.mono (by omega))
      have ⟨zA5, cA5, dA5⟩ := hA5
      have ⟨⟨zR5, cR5, dR5⟩, fR5, gR5⟩ := hR5
      have hs5 : w4.heap.size ≤ w5.heap.size := hb5.size
      clear hb5
      go_wp2_with fail
      have hR7 := hR5.set (.int .i64 s) (.slice va vn vc)
      have b7 := (b5.setCell (p := ⟨w.heap.size + 1, 0, none⟩) (by simp) (.int .i64 s)).setCell (p := ⟨w.heap.size + 1, 1, none⟩) (by simp) (.slice va vn vc)
      refine bodyPost_ret (v := .tuple #[.agg #[.int .i64 s, .slice va vn vc], .bool (mxB xss)]) (by have ⟨⟨_, q1, q2⟩, _, _⟩ := hR7; simp [results, Tryz.results82, go_sem, q1, q2]) rfl ?_
      refine ⟨s, va, vn, vc, rfl, fun _ => ⟨HOK.out.1, ?_⟩, b7⟩
      obtain ⟨vl, hp⟩ := HOK.out.2
      have hp5 := hp.below bb5 (Nat.le_refl _)
      have hset : ∀ (p : Addr) (u : Value) (w9 : World), p.block = w.heap.size + 1 → SumP w9 W0.heap.size (.slice va vn vc) vl xss → SumP (w9.setCell p u) W0.heap.size (.slice va vn vc) vl xss := fun p u w9 e h =>
        ⟨ownsRow_setCell_below h.own (by rw [e]; omega) u, h.vlen, fun k hk => (h.row k hk).setBelow (by rw [e]; omega) u, h.apart, h.pair⟩
      exact ⟨vl, (hset _ _ _ rfl (hset _ _ _ rfl hp5)).mono (by omega)⟩

theorem iIsMatrix_any (a : Option Addr) (xss : List (List Int)) (cap : Nat) (w : World) (hx : RdC w a xss) (hs : xss.length + totS xss xss.length ≤ 1048576) :
    Calls Tryz.prog 49 #[.agg #[.slice a xss.length cap]] w fun e w' => e = .returned (.bool (mxB xss)) ∧ Below w.heap.size w w' := by
  have hlen := hx.rd.len
  go_enter Tryz.func49, Tryz.ntmps49
  go_wp2_with fail
  refine (rowsOf_any _ _ _ _ (hx.below (by repeat (first | exact Below.refl _ _ | assumption | refine Below.alloc ?_ (by first | exact Nat.le_refl _ | (simp only [World.size_alloc, World.size_setCell, World.size_drew]; omega) | omega) _ | refine Below.setCell ?_ (by first | exact Nat.le_refl _ | (simp only [World.size_alloc, World.size_setCell, World.size_drew]; omega) | omega) _ | refine Below.drew ?_))) hs).mono ?_
  rintro e w1 ⟨s, va, vn, vc, rfl, _, hb⟩
  have b1 : Below w.heap.size w w1 := Below.trans (by repeat (first | exact Below.refl _ _ | assumption | refine Below.alloc ?_ (by first | exact Nat.le_refl _ | (simp only [World.size_alloc, World.size_setCell, World.size_drew]; omega) | omega) _ | refine Below.setCell ?_ (by first | exact Nat.le_refl _ | (simp only [World.size_alloc, World.size_setCell, World.size_drew]; omega) | omega) _ | refine Below.drew ?_)) (hb.mono (by first | (simp only [World.size_alloc, World.size_setCell, World.size_drew]; omega) | omega))
  clear hb
  go_wp2_with fail
  go_ret
  exact ⟨rfl, b1.alloc b1.size _⟩

set_option maxRecDepth 100000 in
theorem iTopMx_any (a : Option Addr) (xss : List (List Int)) (cap : Nat) (w : World) (hx : RdC w a xss) (hs : xss.length + totS xss xss.length ≤ 1048576) :
    Calls Tryz.prog 87 #[.agg #[.slice a xss.length cap]] w fun e w' => e = .returned (.tuple #[.int .i64 (topV xss), .bool (topB xss)]) ∧ Below w.heap.size w w' := by
  have hlen := hx.rd.len
  have HX := Lib.hid hx
  have HCL := Lib.hid (fun W (h : RdC W a xss) => iIsMatrix_any a xss cap W h hs)
  cases hm : mxB xss
  · have HM := Lib.hid hm
    have H2 : Hid (topB xss = false) := by simp [Hid, topB, hm]
    have H1 : Hid (topV xss = 0) := by rw [Hid, topV, H2.out]; rfl
    clear hm
    go_enter Tryz.func87, Tryz.ntmps87
    go_wp2_with fail
    refine (HCL.out _ (hx.below (by repeat (first | exact Below.refl _ _ | assumption | refine Below.alloc ?_ (by first | exact Nat.le_refl _ | (simp only [World.size_alloc, World.size_setCell, World.size_drew]; omega) | omega) _ | refine Below.setCell ?_ (by first | exact Nat.le_refl _ | (simp only [World.size_alloc, World.size_setCell, World.size_drew]; omega) | omega) _ | refine Below.drew ?_)))).mono ?_
    rintro e w1 ⟨rfl, hb⟩
    rw [HM.out]
    have b1 : Below w.heap.size w w1 := Below.trans (by repeat (first | exact Below.refl _ _ | assumption | refine Below.alloc ?_ (by first | exact Nat.le_refl _ | (simp only [World.size_alloc, World.size_setCell, World.size_drew]; omega) | omega) _ | refine Below.setCell ?_ (by first | exact Nat.le_refl _ | (simp only [World.size_alloc, World.size_setCell, World.size_drew]; omega) | omega) _ | refine Below.drew ?_)) (hb.mono (by first | (simp only [World.size_alloc, World.size_setCell, World.size_drew]; omega) | omega))
    clear hb
    go_wp2_with fail
    go_ret2
    exact ⟨ret_ib' H1.out.symm H2.out.symm, b1⟩
  · have HM := Lib.hid hm
    have h12 := mxB_small hm
    clear hm
    by_cases h0 : xss.length = 0
    · have h00 : ((xss.length : Int) == 0) = true := by simp [h0]
      have H2 : Hid (topB xss = false) := by simp [Hid, topB, h0]
      have H1 : Hid (topV xss = 0) := by rw [Hid, topV, H2.out]; rfl
      clear h0
      go_enter Tryz.func87, Tryz.ntmps87
      go_wp2_with fail
      refine (HCL.out _ (hx.below (by repeat (first | exact Below.refl _ _ | assumption | refine Below.alloc ?_ (by first | exact Nat.le_refl _ | (simp only [World.size_alloc, World.size_setCell, World.size_drew]; omega) | omega) _ | refine Below.setCell ?_ (by first | exact Nat.le_refl _ | (simp only [World.size_alloc, World.size_setCell, World.size_drew]; omega) | omega) _ | refine Below.drew ?_)))).mono ?_
      rintro e w1 ⟨rfl, hb⟩
      rw [HM.out]
      have b1 : Below w.heap.size w w1 := Below.trans (by repeat (first | exact Below.refl _ _ | assumption | refine Below.alloc ?_ (by first | exact Nat.le_refl _ | (simp only [World.size_alloc, World.size_setCell, World.size_drew]; omega) | omega) _ | refine Below.setCell ?_ (by first | exact Nat.le_refl _ | (simp only [World.size_alloc, World.size_setCell, World.size_drew]; omega) | omega) _ | refine Below.drew ?_)) (hb.mono (by first | (simp only [World.size_alloc, World.size_setCell, World.size_drew]; omega) | omega))
      have hc0 := (hb.cell (p := ⟨w.heap.size, 0, none⟩) (by simp)).trans (show _ = some (Value.slice a xss.length cap) by simp)
      clear hb
      go_wp2_with fail
      go_ret2
      exact ⟨ret_ib' H1.out.symm H2.out.symm, b1⟩
    · have h00 : ((xss.length : Int) == 0) = false := by simp only [beq_eq_false_iff_ne, ne_eq]; omega
      have H2 : Hid (topB xss = true) := by simp only [Hid, topB, HM.out, Bool.true_and, decide_eq_true_eq]; exact h0
      have H1 : Hid (topV xss = ((topN xss : Nat) : Int)) := by rw [Hid, topV, H2.out]; rfl
      have hpos : 1 ≤ xss.length := by omega
      have htl := topN_lt HM.out (by omega)
      have HZ : Hid (∀ j, j < topN xss → atM xss j (xss.length - 1) = 0) := fun j hj => topN_zero hj
      have HNE := Lib.hid (topN_ne HM.out (by omega))
      obtain ⟨T, hT⟩ : ∃ T, T = topN xss := ⟨_, rfl⟩
      rw [← hT] at H1 htl HZ HNE
      clear h0 hT
      go_enter Tryz.func87, Tryz.ntmps87
      go_wp2_with fail
      refine (HCL.out _ (hx.below (by repeat (first | exact Below.refl _ _ | assumption | refine Below.alloc ?_ (by first | exact Nat.le_refl _ | (simp only [World.size_alloc, World.size_setCell, World.size_drew]; omega) | omega) _ | refine Below.setCell ?_ (by first | exact Nat.le_refl _ | (simp only [World.size_alloc, World.size_setCell, World.size_drew]; omega) | omega) _ | refine Below.drew ?_)))).mono ?_
      rintro e w1 ⟨rfl, hb⟩
      rw [HM.out]
      have b1 : Below w.heap.size w w1 := Below.trans (by repeat (first | exact Below.refl _ _ | assumption | refine Below.alloc ?_ (by first | exact Nat.le_refl _ | (simp only [World.size_alloc, World.size_setCell, World.size_drew]; omega) | omega) _ | refine Below.setCell ?_ (by first | exact Nat.le_refl _ | (simp only [World.size_alloc, World.size_setCell, World.size_drew]; omega) | omega) _ | refine Below.drew ?_)) (hb.mono (by first | (simp only [World.size_alloc, World.size_setCell, World.size_drew]; omega) | omega))
      have hc0 := (hb.cell (p := ⟨w.heap.size, 0, none⟩) (by simp)).trans (show _ = some (Value.slice a xss.length cap) by simp)
      have hcast : ((xss.length : Int) - 1) = ((xss.length - 1 : Nat) : Int) := by omega
      have hrow : ∀ (k : Nat) (W : World), k < xss.length → Below w.heap.size w W → ∃ b off b2 off2 cap', a = some ⟨b, off, none⟩ ∧ W.cell? ⟨b, off + k, none⟩ = some (.slice (some ⟨b2, off2, none⟩) xss.length cap') ∧ W.cell? ⟨b2, off2 + (xss.length - 1), none⟩ = some (.int .i64 (atM xss k (xss.length - 1))) ∧ b < W.heap.size ∧ b2 < W.heap.size := by
        intro k W hk hbW
        obtain ⟨b, off, a', cap', e1, hbl, hc, hr, _⟩ := (HX.out.below hbW).row hk
        have hl := mxB_len HM.out hk
        obtain ⟨b2, off2, e2, hbl2, hc2⟩ := hr.cell (xss.length - 1) (by omega)
        rw [hl, e2] at hc
        exact ⟨b, off, b2, off2, cap', e1, hc, hc2, hbl, hbl2⟩
      have HROW := Lib.hid hrow
      clear hb hx hrow
      go_wp2_with fail
      go_region
      all_goals
        have hdr : Below w.heap.size w (w1.drew) := b1.drew
        go_wp2_with fail
        go_loop [4] (fun i => ∃ k : Nat, k ≤ T ∧ i = .int .i64 k) (fun i => T + 1 - (intOf i).toNat)
        case atStart => exact ⟨0, Nat.zero_le _, rfl⟩
        case round =>
          obtain ⟨k, hk, rfl⟩ := hrel
          obtain ⟨b, off, b2, off2, cap', rfl, hc, hc2, hbl, hbl2⟩ := HROW.out k _ (by omega) hdr
          have k1 : (k : Int) < (xss.length : Int) := by omega
          by_cases hlt : k < T
          · have hz := HZ.out k hlt
            rw [hz] at hc2
            have hzz : ((0 : Int) == 0) = true := rfl
            clear hz
            go_wp2_with fail
            go_round
            case rel => exact ⟨k + 1, by omega, by go_num⟩
            case measure => simp [intOf]; omega
          · obtain rfl : k = T := by omega
            have hz := HNE.out
            obtain ⟨Z, hZ⟩ : ∃ Z, Z = atM xss k (xss.length - 1) := ⟨_, rfl⟩
            rw [← hZ] at hz hc2
            have hzz : (Z == 0) = false := by simp [hz]
            clear hz hZ
            go_wp2_with fail
            go_ret2
            exact ⟨ret_ib' H1.out.symm H2.out.symm, hdr⟩

theorem SumP.vn {w : World} {B n c : Nat} {a : Option Addr} {vl : List Value} {xss : List (List Int)} (h : SumP w B (.slice a n c) vl xss) : n = xss.length := by
  obtain ⟨a2, c2, e⟩ := h.form
  simp only [Value.slice.injEq] at e
  exact e.2.1

set_option maxRecDepth 100000 in
theorem numbersOf_any (s : Int) (va : Option Addr) (vc B : Nat) (vl : List Value) (xss : List (List Int)) (w : World) (hp : SumP w B (.slice va xss.length vc) vl xss) (hB : B ≤ w.heap.size) (h63 : xss.length ≤ 1048576) :
    Calls Tryz.prog 88 #[.agg #[.int .i64 s, .slice va xss.length vc]] w fun e w' => ∃ g, e = .returned (.slice (some ⟨g, 0, none⟩) xss.length xss.length) ∧ RowsP w' B (.slice (some ⟨g, 0, none⟩) xss.length xss.length) vl xss ∧ Below w.heap.size w w' := by
  obtain ⟨j0, hj0, hy0, hy1, hy2⟩ := info_parts infoRow0
  have HP := Lib.hid hp
  have hvl := hp.vlen
  clear hp
  obtain ⟨N, hN⟩ : ∃ N, N = xss.length := ⟨_, rfl⟩
  have HN := Lib.hid hN
  rw [← hN] at h63 hvl ⊢
  have HVL := Lib.hid hvl
  have HP2 : Hid (SumP w B (.slice va N vc) vl xss) := by rw [hN]; exact HP.out
  clear hN HP hvl
  go_enter Tryz.func88, Tryz.ntmps88
  go_wp2_with (
    at_make
    refine wpList_make_full _ rfl (.tmp 8) (.tmp 8) 43 rfl (w.heap.size + 1) 24 j0 (.slice none 0 0) 1 Tryz.underlying43 hj0 hy0 hy1 .i64 .i64 _ _ N rfl rfl rfl rfl (by rw [hy2]; omega) (by unfold maxLen; omega) (by simp) ?_
    intro w1 hown hgrow
    have bw1 : Below w.heap.size w w1 := Below.trans (B := w.heap.size) ((Below.refl _ _).alloc (Nat.le_refl _) _) (below_grown_none hgrow (by simp))
    have hc1 : w1.cell? ⟨w.heap.size, 1, none⟩ = some (.slice va N vc) := hgrow.cell (by simp) (by simp)
    have hz1' : w.heap.size + 1 < w1.heap.size := by
      have := (World.ownsRow.lt hown (w.heap.size + 1) (by simp [Value.ownBlock])).2
      omega)
  have HO0 : Hid (w1.ownsRow (w.heap.size + 1) 24 1 (.slice (some ⟨w.heap.size + 1, 0, none⟩) N N) N (nVal vl N 0)) := by
    rw [Hid, nVal_zero]
    simpa [Value.cells, toList_madeCells_one] using hown
  clear hown hgrow
  go_loopw [13] (fun i wr => ∃ k : Nat, k ≤ N ∧ i = .int .i64 k ∧ wr.ownsRow (w.heap.size + 1) 24 1 (.slice (some ⟨w.heap.size + 1, 0, none⟩) N N) N (nVal vl N k) ∧ Below w.heap.size w wr ∧ w.heap.size + 1 < wr.heap.size) (fun i _ => N - (intOf i).toNat)
  case atStart => exact ⟨0, Nat.zero_le _, rfl, HO0.out, bw1, hz1'⟩
  case round =>
    obtain ⟨k, hk, rfl, hown2, hb, hgz⟩ := hrel
    have hbs := hb.size
    by_cases hlt : k < N
    · have k1 : (k : Int) < (N : Int) := by omega
      have hpr := HP2.out.below hb (Nat.le_refl _)
      obtain ⟨g0, rfl, hg0, hcA, hcB⟩ := hpr.at (k := k) (by rw [← HN.out]; exact hlt)
      obtain ⟨ar, cr, er⟩ := (hpr.row k (by rw [← HN.out]; exact hlt)).form
      rw [er] at hcB
      obtain ⟨T, hT⟩ : ∃ T, T = totR (rowL xss k) := ⟨_, rfl⟩
      rw [← hT] at hcA
      have hst := (World.ownsRow.stored hown2 k (valAt vl k)).1
      rw [nVal_step hlt, er] at hst
      have hst := ownsRow_bel hst (w' := (wr.setCell ⟨w.heap.size + 1, k, none⟩ (.slice ar (rowL xss k).length cr)).alloc (.cells #[.int .i64 T, .slice ar (rowL xss k).length cr] 115)) ((Below.refl _ _).alloc (Nat.le_refl _) _) (Nat.le_refl _)
      have hcc := World.ownsRow.cellAt hown2 k (by omega)
      have hfr := World.ownsRow.frozenAt hown2 k
      have hcc' : ∃ u, wr.cell? ⟨w.heap.size + 1, k, none⟩ = some u := by
        rw [hcc]
        exact ⟨_, List.getElem?_eq_getElem (by rw [nVal_len]; omega)⟩
      obtain ⟨u, hu⟩ := hcc'
      have Hst := Lib.hid hst
      have b3 : Below w.heap.size w ((wr.setCell ⟨w.heap.size + 1, k, none⟩ (.slice ar (rowL xss k).length cr)).alloc (.cells #[.int .i64 T, .slice ar (rowL xss k).length cr] 115)) := (hb.setCell (by simp) _).alloc (by simpa using hbs) _
      clear hst hcc hown2 hpr er hT
      go_wp2_with fail
      go_roundw
      case rel => exact ⟨k + 1, by omega, by go_num, Hst.out, b3, by simp; omega⟩
      case measure => simp [intOf]; omega
    · obtain rfl : k = N := by omega
      rw [nVal_end HVL.out] at hown2
      have HO := Lib.hid hown2
      have hpr := Lib.hid (HP2.out.below hb (Nat.le_refl _))
      have HLT := Lib.hid HP2.out.blk
      clear hown2
      go_wp2_with fail
      go_ret
      refine ⟨w.heap.size + 1, rfl, ⟨⟨?_, hpr.out.row, fun i hi c hc h => ?_⟩, hpr.out.pair⟩, hb⟩
      · rw [← HN.out]
        refine ⟨HO.out.1, ?_⟩
        rcases HO.out.2 with hn | ⟨g, cap, cur, e, hb', rest⟩
        · exact .inl hn
        · exact .inr ⟨g, cap, cur, e, by omega, rest⟩
      · have := HLT.out.2 i hi c hc
        simp only [Value.ownBlock, Option.some.injEq] at h
        omega

set_option maxRecDepth 100000 in
set_option maxHeartbeats 1000000 in
theorem iGrow_any (a : Option Addr) (xss : List (List Int)) (cap : Nat) (p : Int) (w : World) (hx : RdC w a xss) (hs : xss.length + totS xss xss.length ≤ 1048576) (hp : -9223372036854775808 ≤ p ∧ p ≤ 9223372036854775807) :
    Calls Tryz.prog 57 #[.agg #[.slice a xss.length cap], .int .i64 p] w fun e w' => ∃ a0 c0 vl, e = .returned (.tuple #[.agg #[.slice a0 (gwL xss p).length c0], .bool (gwB xss p)]) ∧ RowsP w' w.heap.size (.slice a0 (gwL xss p).length c0) vl (gwL xss p) ∧ Below w.heap.size w w' := by
  have hlen := hx.rd.len
  have hV := Var1.new (w.alloc (.cells #[.slice a xss.length cap] 45)) (.slice none 0 0) 45
  have hA := (Box1.new w (.slice a xss.length cap) 45).below ((Below.refl _ _).alloc (Nat.le_refl _) (.cells #[.slice none 0 0] 45))
  have hb0 : Below w.heap.size w ((w.alloc (.cells #[.slice a xss.length cap] 45)).alloc (.cells #[.slice none 0 0] 45)) := (by repeat (first | exact Below.refl _ _ | assumption | refine Below.alloc ?_ (by first | exact Nat.le_refl _ | (simp only [World.size_alloc, World.size_setCell, World.size_drew]; omega) | omega) _ | refine Below.setCell ?_ (by first | exact Nat.le_refl _ | (simp only [World.size_alloc, World.size_setCell, World.size_drew]; omega) | omega) _ | refine Below.drew ?_))
  rw [World.size_alloc] at hV
  have HTP := Lib.hid (fun W (h : RdC W a xss) => iTopMx_any a xss cap W h hs)
  have HRC := Lib.hid (fun W (h : RdC W a xss) => rowsOf_any a xss cap W h hs)
  have HX := Lib.hid hx
  cases hm : mxB xss
  · have HM := Lib.hid hm
    have H1 : Hid (gwB xss p = false) := by simp [Hid, gwB, hm]
    have H2 : Hid (gwL xss p = []) := by rw [Hid, gwL, H1.out]; rfl
    clear hm
    go_enter Tryz.func57, Tryz.ntmps57
    go_wp2_with fail
    refine (HRC.out _ (HX.out.below hb0)).mono ?_
    rintro e w2 ⟨s, va, vn, vc, rfl, hok, hb2⟩
    rw [HM.out]
    have b2 := hb0.trans (hb2.mono (by simp; omega))
    have hV2 := (hV.below hb2).alloc (.cells #[.int .i64 s, .slice va vn vc] 108)
    have b2' := b2.alloc b2.size (.cells #[.int .i64 s, .slice va vn vc] 108)
    have ⟨⟨zV, cV⟩, fV⟩ := hV2
    clear hb2 hok hV b2 hA
    go_wp2_with fail
    have hV3 := hV2.set (.slice none 0 0)
    have b3 := b2'.setCell (p := ⟨w.heap.size + 1, 0, none⟩) (by simp) (.slice none 0 0)
    refine bodyPost_ret (v := .tuple #[.agg #[.slice none 0 0], .bool false]) (by have ⟨⟨_, q1⟩, _⟩ := hV3; simp [results, Tryz.results57, go_sem, q1]) rfl ?_
    exact ⟨none, 0, [], by rw [H1.out, H2.out]; rfl, by rw [H2.out]; exact RowsP.nil _ _, b3⟩
  · have HM := Lib.hid hm
    have h12 := mxB_small hm
    have hmS := (adB_iff.1 (mxB_iff.1 hm).1).2
    have hmN : 0 ≤ matS xss xss.length := matS_nn (fun j hj => by have := ((adB_iff.1 (mxB_iff.1 hm).1).1 j hj).2; omega)
    clear hm
    go_enter Tryz.func57, Tryz.ntmps57
    go_wp2_with fail
    refine (HRC.out _ (HX.out.below hb0)).mono ?_
    rintro e w2 ⟨s, va, vn, vc, rfl, hok, hb2⟩
    rw [HM.out]
    obtain ⟨hsS, vl, hpp⟩ := hok HM.out
    obtain rfl := hpp.vn
    have b2 := hb0.trans (hb2.mono (by simp; omega))
    have hV2 := (hV.below hb2).alloc (.cells #[.int .i64 s, .slice va xss.length vc] 108)
    have hA2 := (hA.below hb2).below ((Below.refl _ _).alloc (Nat.le_refl _) (.cells #[.int .i64 s, .slice va xss.length vc] 108))
    have b2' := b2.alloc b2.size (.cells #[.int .i64 s, .slice va xss.length vc] 108)
    have hP2 := Var2.new w2 (.int .i64 s) (.slice va xss.length vc) 108
    have hz2 : w.heap.size + 2 ≤ w2.heap.size := by have := hb2.size; simp at this; omega
    have hp2 := hpp.below ((Below.refl _ _).alloc (Nat.le_refl _) (.cells #[.int .i64 s, .slice va xss.length vc] 108)) (Nat.le_refl _)
    have hp2 := hp2.mono (B' := w.heap.size + 2) (by simp)
    have HPB := Lib.hid hpp.blk
    have HPP := Lib.hid hpp
    have HV0 := Lib.hid (hV.below hb2)
    have HA0 := Lib.hid (hA.below hb2)
    have HB0 := Lib.hid b2
    have ⟨⟨zV, cV⟩, fV⟩ := hV2
    have ⟨zA, cA⟩ := hA2
    have HP2 := Lib.hid hp2
    have HV2 := Lib.hid hV2
    have HA2 := Lib.hid hA2
    have HQ2 := Lib.hid hP2
    have HSS := Lib.hid hsS
    clear hb2 hok hpp hp2 hV b2 hA hb0 hV2 hP2 hA2
    by_cases hp0 : p < 0
    · have H1 : Hid (gwB xss p = false) := by rw [Hid, ← Bool.not_eq_true, gwB_iff]; omega
      have H2 : Hid (gwL xss p = []) := by rw [Hid, gwL, H1.out]; rfl
      clear hsS
      go_wp2_with fail
      have hV3 := HV2.out.set (.slice none 0 0)
      have b3 := b2'.setCell (p := ⟨w.heap.size + 1, 0, none⟩) (by simp) (.slice none 0 0)
      refine bodyPost_ret (v := .tuple #[.agg #[.slice none 0 0], .bool false]) (by have ⟨⟨_, q1⟩, _⟩ := hV3; simp [results, Tryz.results57, go_sem, q1]) rfl ?_
      exact ⟨none, 0, [], by rw [H1.out, H2.out]; rfl, by rw [H2.out]; exact RowsP.nil _ _, b3⟩
    · by_cases hpN : (xss.length : Int) < p
      · have H1 : Hid (gwB xss p = false) := by rw [Hid, ← Bool.not_eq_true, gwB_iff]; omega
        have H2 : Hid (gwL xss p = []) := by rw [Hid, gwL, H1.out]; rfl
        clear hsS
        go_wp2_with fail
        have hV3 := HV2.out.set (.slice none 0 0)
        have b3 := b2'.setCell (p := ⟨w.heap.size + 1, 0, none⟩) (by simp) (.slice none 0 0)
        refine bodyPost_ret (v := .tuple #[.agg #[.slice none 0 0], .bool false]) (by have ⟨⟨_, q1⟩, _⟩ := hV3; simp [results, Tryz.results57, go_sem, q1]) rfl ?_
        exact ⟨none, 0, [], by rw [H1.out, H2.out]; rfl, by rw [H2.out]; exact RowsP.nil _ _, b3⟩
      · have HADD := Lib.hid (iAdd_any w2.heap.size s 1 _ _ HQ2.out (by omega))
        by_cases hp12 : matS xss xss.length < 12
        · obtain ⟨x, rfl⟩ : ∃ x : Nat, p = (x : Int) := ⟨p.toNat, by omega⟩
          have H1 : Hid (gwB xss (x : Int) = true) := by rw [Hid, gwB_iff]; exact ⟨HM.out, by omega, by omega, hp12⟩
          have hxN : x ≤ xss.length := by omega
          have H2 : Hid (gwL xss (x : Int) = if (x : Int) ≤ topI xss then sqM (grAI (atM xss) xss.length x) xss.length xss.length else sqM (grBI (atM xss) xss.length x) (xss.length + 1) (xss.length + 1)) := by rw [Hid, gwL, H1.out, if_pos rfl, Int.toNat_natCast, grL_eq HM.out hxN]
          have H3 : Hid (addB s 1 = true) := by rw [Hid, addB_iff]; omega
          have hs12 : 0 ≤ s ∧ s < 12 := by omega
          have HE := Lib.hid (mx_eta HM.out)
          have HMX := Lib.hid (fun i (hi : i < xss.length) => mxB_len HM.out hi)
          have HNUMB := Lib.hid (fun i j (hi : i < xss.length) (hj : j < xss.length) => mxB_num HM.out hi (j := j) hj)
          have HTL := Lib.hid (fun (h : 0 < xss.length) => topN_lt HM.out h)
          have bq : Below w2.heap.size w2 ((w2.alloc (.cells #[.int .i64 s, .slice va xss.length vc] 108)).setCell ⟨w2.heap.size, 0, none⟩ (.int .i64 (s + 1))) := ((Below.refl _ _).alloc (Nat.le_refl _) _).setCell (p := ⟨w2.heap.size, 0, none⟩) (Nat.le_refl _) _
          have hp3 := (HPP.out.below bq (Nat.le_refl _)).mono (B' := w.heap.size + 2) (by simp)
          have hV3 := HV0.out.below bq
          have hA3 := HA0.out.below bq
          have b3 := HB0.out.trans (bq.mono HB0.out.size)
          have hQ3 := HQ2.out.set0 (.int .i64 (s + 1))
          clear hsS b2' hp12
          go_wp2_with fail
          refine HADD.out.mono ?_
          rintro e w3' ⟨rfl, rfl⟩
          clear cA cV fV zV zA
          rw [addW, H3.out, if_pos rfl]
          generalize hW3 : (w2.alloc (.cells #[.int .i64 s, .slice va xss.length vc] 108)).setCell ⟨w2.heap.size, 0, none⟩ (.int .i64 (s + 1)) = w3 at hp3 hV3 hA3 b3 hQ3 bq ⊢
          clear hW3
          have hz3 : w.heap.size + 2 ≤ w3.heap.size := by have := bq.size; omega
          have HNUM := Lib.hid (numbersOf_any (s + 1) va vc (w.heap.size + 2) vl xss w3 hp3 hz3 (by omega))
          have ⟨⟨zQ3, cQ3, dQ3⟩, fQ3, gQ3⟩ := hQ3
          have ⟨zA3, cA3⟩ := hA3
          have HV3 := Lib.hid hV3
          have HA3 := Lib.hid hA3
          clear hp3 hV3 hA3 hQ3 bq
          go_wp2_with fail
          refine HNUM.out.mono ?_
          rintro e w4 ⟨g, rfl, hro4, hb4⟩
          have b4 := b3.trans (hb4.mono b3.size)
          have hV4 := HV3.out.below hb4
          have hA4 := HA3.out.below hb4
          have ⟨zA4, cA4⟩ := hA4
          have HR4 := Lib.hid hro4
          have HV4 := Lib.hid hV4
          have hz4 : w.heap.size + 2 ≤ w4.heap.size := by have := hb4.size; omega
          clear hb4 hro4 hV4 HNUM cA3 cQ3 dQ3
          go_wp2_with fail
          refine (HTP.out _ (HX.out.below b4)).mono ?_
          rintro e w5 ⟨rfl, hb5⟩
          have b5 := b4.trans (hb5.mono b4.size)
          have hV5 := HV4.out.below hb5
          have hro5 := HR4.out.below hb5 (Nat.le_refl _)
          have hz5 : w.heap.size + 2 ≤ w5.heap.size := by have := hb5.size; omega
          clear hb5
          obtain ⟨N, hN⟩ : ∃ N, N = xss.length := ⟨_, rfl⟩
          have HN := Lib.hid hN
          rw [HE.out, ← hN] at hro5
          rw [← hN] at H2 hxN h12 HMX HNUMB HTL hlen
          obtain ⟨f, hf⟩ : ∃ f, f = atM xss := ⟨_, rfl⟩
          rw [← hf] at hro5 H2 HNUMB
          simp only [sqM_len] at hro5
          have HFF := Lib.hid hf
          by_cases ht : (x : Int) ≤ topI xss
          · rw [if_pos ht] at H2
            have hpos : 0 < N := by
              apply Classical.byContradiction
              intro h
              rw [topI, if_pos (by omega)] at ht
              omega
            rw [topI, if_neg (by omega)] at ht
            have HTB : Hid (topB xss = true) := by simp [Hid, topB, HM.out]; intro h; rw [h] at hN; simp at hN; omega
            have HTV : Hid (topV xss = ((topN xss : Nat) : Int)) := by rw [Hid, topV, HTB.out]; rfl
            rw [HTB.out, HTV.out]
            have htl := HTL.out hpos
            obtain ⟨T, hT⟩ : ∃ T, T = topN xss := ⟨_, rfl⟩
            rw [← hT] at ht htl ⊢
            have hxT : ¬ (T : Int) < (x : Int) := by omega
            have hxN1 : x < N := by omega
            have hN1 : N - 1 < N := by omega
            have hcast : ((N : Int) - 1) = ((N - 1 : Nat) : Int) := by omega
            rw [← hN]
            obtain ⟨g4, e4, hg4, hg5, hc4, hf4⟩ := hro5.outer (k := x) (by rw [sqM_len]; exact hxN1)
            simp only [Option.some.injEq, Addr.mk.injEq, and_true] at e4
            subst e4
            obtain ⟨g6, c6, e6, hg6, hg7, hc6, hf6, hnew⟩ := hro5.num (i := x) (j := N - 1) (by rw [sqM_len]; exact hxN1) (by rw [sqM_rlen hxN1]; omega)
            rw [e6, sqM_rlen hxN1] at hc4
            rw [sqM_at hxN1 hN1] at hc6
            have ⟨hz0, hz9⟩ := HNUMB.out x (N - 1) hxN1 hN1
            have hset := hnew (f x (N - 1) + 1)
            rw [setM_sq hxN1 hN1] at hset
            have b6 := b5.setCell (p := ⟨g6, N - 1, none⟩) (show w.heap.size ≤ g6 by omega) (.int .i64 (f x (N - 1) + 1))
            have hV6 := hV5.other (p := ⟨g6, N - 1, none⟩) (.int .i64 (f x (N - 1) + 1)) (show w.heap.size + 1 ≠ g6 by omega)
            have hset2 : RowsP (w5.setCell ⟨g6, N - 1, none⟩ (.int .i64 (f x (N - 1) + 1))) (w.heap.size + 2) (.slice (some ⟨g, 0, none⟩) N N) vl (sqM (grAI f N x) N N) := hset
            obtain ⟨Z, hZ⟩ : ∃ Z, Z = f x (N - 1) := ⟨_, rfl⟩
            rw [← hZ] at hc6 hset2 b6 hV6 hz0 hz9
            have HS6 := Lib.hid hset2
            have HV6 := Lib.hid hV6
            have ⟨⟨zV6, cV6⟩, fV6⟩ := hV6
            clear hro5 hnew hset hset2 hV6 hV5 e6 hZ hT hf hN
            go_wp2_with fail
            have hV7 := HV6.out.set (.slice (some ⟨g, 0, none⟩) N N)
            have b7 := b6.setCell (p := ⟨w.heap.size + 1, 0, none⟩) (by simp) (.slice (some ⟨g, 0, none⟩) N N)
            refine bodyPost_ret (v := .tuple #[.agg #[.slice (some ⟨g, 0, none⟩) N N], .bool true]) (by have ⟨⟨_, q1⟩, _⟩ := hV7; simp [results, Tryz.results57, go_sem, q1]) rfl ?_
            exact ⟨some ⟨g, 0, none⟩, N, vl, by rw [H1.out, H2.out, sqM_len], by rw [H2.out, sqM_len]; exact (HS6.out.setBelow (show w.heap.size + 1 < w.heap.size + 2 by omega) _).mono (by omega), b7⟩
          · rw [if_neg ht] at H2
            have HTC : Hid (topB xss = false ∨ topV xss < (x : Int)) := by
              by_cases h0 : xss.length = 0
              · left; simp [topB, h0]
              · right
                rw [topI, if_neg h0] at ht
                rw [topV]
                split
                · omega
                · omega
            have HPUT := Lib.hid (putIn_any g (w.heap.size + 2) N x vl f w5 hro5 hxN hz5 (by omega))
            rw [← hN]
            generalize topB xss = tb at HTC ⊢
            generalize topV xss = tv at HTC ⊢
            have HV5 := Lib.hid hV5
            clear ht hro5 hV5 hf hN
            cases tb
            · clear HTC
              go_wp2_with fail
              refine HPUT.out.mono ?_
              rintro e w6 ⟨g6, c6, ul, rfl, hro6, hb6⟩
              have b6 := b5.trans (hb6.mono (by omega : w.heap.size ≤ w.heap.size + 2))
              have hV6 : Var1 w6 (w.heap.size + 1) (.slice none 0 0) := ⟨⟨by have := hb6.size; omega, (hb6.cell (p := ⟨w.heap.size + 1, 0, none⟩) (show w.heap.size + 1 < w.heap.size + 2 by omega)).trans HV5.out.1.2⟩, (hb6.frozen (p := ⟨w.heap.size + 1, 0, none⟩) (show w.heap.size + 1 < w.heap.size + 2 by omega)).trans HV5.out.2⟩
              have hz : swF (fun a b => wdF (inR f x a) x b) (N+1) x x x N = 0 := by rw [swF, if_neg (Nat.lt_irrefl x)]; simp [wdF, inR]
              have hput := gr_put (f := f) hxN
              obtain ⟨F, hF⟩ : ∃ F, F = swF (fun a b => wdF (inR f x a) x b) (N+1) x x := ⟨_, rfl⟩
              rw [← hF] at hro6 hz hput
              obtain ⟨M, hM⟩ : ∃ M, M = N + 1 := ⟨_, rfl⟩
              have HMM := Lib.hid hM
              rw [← hM] at hro6 hput H2 ⊢
              have hxM : x < M := by omega
              have hNM : N < M := by omega
              have hcast : ((M : Int) - 1) = (N : Int) := by omega
              obtain ⟨g4, e4, hg4, hg5, hc4, hf4⟩ := hro6.outer (k := x) (by rw [sqM_len]; exact hxM)
              simp only [Option.some.injEq, Addr.mk.injEq, and_true] at e4
              subst e4
              obtain ⟨g7, c7, e7, hg7, hg8, hc7, hf7, hnew⟩ := hro6.num (i := x) (j := N) (by rw [sqM_len]; exact hxM) (by rw [sqM_rlen hxM]; exact hNM)
              rw [e7, sqM_rlen hxM] at hc4
              rw [sqM_at hxM hNM, hz] at hc7
              have hset := hnew 1
              rw [hput] at hset
              have b7 := b6.setCell (p := ⟨g7, N, none⟩) (show w.heap.size ≤ g7 by omega) (.int .i64 1)
              have hV7 := hV6.other (p := ⟨g7, N, none⟩) (.int .i64 1) (show w.heap.size + 1 ≠ g7 by omega)
              have HS7 := Lib.hid hset
              have HV7 := Lib.hid hV7
              have ⟨⟨zV7, cV7⟩, fV7⟩ := hV7
              clear hro6 hnew hset hV6 hV7 hb6 e7 hz hput hF hM HPUT
              go_wp2_with fail
              have hV8 := HV7.out.set (.slice (some ⟨g6, 0, none⟩) M c6)
              have b8 := b7.setCell (p := ⟨w.heap.size + 1, 0, none⟩) (by simp) (.slice (some ⟨g6, 0, none⟩) M c6)
              refine bodyPost_ret (v := .tuple #[.agg #[.slice (some ⟨g6, 0, none⟩) M c6], .bool true]) (by have ⟨⟨_, q1⟩, _⟩ := hV8; simp [results, Tryz.results57, go_sem, q1]) rfl ?_
              exact ⟨some ⟨g6, 0, none⟩, c6, ul, by rw [H1.out, H2.out, sqM_len], by rw [H2.out, sqM_len]; exact (HS7.out.setBelow (show w.heap.size + 1 < w.heap.size + 2 by omega) _).mono (by omega), b8⟩
            · have htv : tv < (x : Int) := by
                rcases HTC.out with h | h
                · cases h
                · exact h
              clear HTC
              go_wp2_with fail
              refine HPUT.out.mono ?_
              rintro e w6 ⟨g6, c6, ul, rfl, hro6, hb6⟩
              have b6 := b5.trans (hb6.mono (by omega : w.heap.size ≤ w.heap.size + 2))
              have hV6 : Var1 w6 (w.heap.size + 1) (.slice none 0 0) := ⟨⟨by have := hb6.size; omega, (hb6.cell (p := ⟨w.heap.size + 1, 0, none⟩) (show w.heap.size + 1 < w.heap.size + 2 by omega)).trans HV5.out.1.2⟩, (hb6.frozen (p := ⟨w.heap.size + 1, 0, none⟩) (show w.heap.size + 1 < w.heap.size + 2 by omega)).trans HV5.out.2⟩
              have hz : swF (fun a b => wdF (inR f x a) x b) (N+1) x x x N = 0 := by rw [swF, if_neg (Nat.lt_irrefl x)]; simp [wdF, inR]
              have hput := gr_put (f := f) hxN
              obtain ⟨F, hF⟩ : ∃ F, F = swF (fun a b => wdF (inR f x a) x b) (N+1) x x := ⟨_, rfl⟩
              rw [← hF] at hro6 hz hput
              obtain ⟨M, hM⟩ : ∃ M, M = N + 1 := ⟨_, rfl⟩
              have HMM := Lib.hid hM
              rw [← hM] at hro6 hput H2 ⊢
              have hxM : x < M := by omega
              have hNM : N < M := by omega
              have hcast : ((M : Int) - 1) = (N : Int) := by omega
              obtain ⟨g4, e4, hg4, hg5, hc4, hf4⟩ := hro6.outer (k := x) (by rw [sqM_len]; exact hxM)
              simp only [Option.some.injEq, Addr.mk.injEq, and_true] at e4
              subst e4
              obtain ⟨g7, c7, e7, hg7, hg8, hc7, hf7, hnew⟩ := hro6.num (i := x) (j := N) (by rw [sqM_len]; exact hxM) (by rw [sqM_rlen hxM]; exact hNM)
              rw [e7, sqM_rlen hxM] at hc4
              rw [sqM_at hxM hNM, hz] at hc7
              have hset := hnew 1
              rw [hput] at hset
              have b7 := b6.setCell (p := ⟨g7, N, none⟩) (show w.heap.size ≤ g7 by omega) (.int .i64 1)
              have hV7 := hV6.other (p := ⟨g7, N, none⟩) (.int .i64 1) (show w.heap.size + 1 ≠ g7 by omega)
              have HS7 := Lib.hid hset
              have HV7 := Lib.hid hV7
              have ⟨⟨zV7, cV7⟩, fV7⟩ := hV7
              clear hro6 hnew hset hV6 hV7 hb6 e7 hz hput hF hM HPUT
              go_wp2_with fail
              have hV8 := HV7.out.set (.slice (some ⟨g6, 0, none⟩) M c6)
              have b8 := b7.setCell (p := ⟨w.heap.size + 1, 0, none⟩) (by simp) (.slice (some ⟨g6, 0, none⟩) M c6)
              refine bodyPost_ret (v := .tuple #[.agg #[.slice (some ⟨g6, 0, none⟩) M c6], .bool true]) (by have ⟨⟨_, q1⟩, _⟩ := hV8; simp [results, Tryz.results57, go_sem, q1]) rfl ?_
              exact ⟨some ⟨g6, 0, none⟩, c6, ul, by rw [H1.out, H2.out, sqM_len], by rw [H2.out, sqM_len]; exact (HS7.out.setBelow (show w.heap.size + 1 < w.heap.size + 2 by omega) _).mono (by omega), b8⟩
        · have H1 : Hid (gwB xss p = false) := by rw [Hid, ← Bool.not_eq_true, gwB_iff]; omega
          have H2 : Hid (gwL xss p = []) := by rw [Hid, gwL, H1.out]; rfl
          have H3 : Hid (addB s 1 = false) := by rw [Hid, ← Bool.not_eq_true, addB_iff]; omega
          clear hsS
          go_wp2_with fail
          refine HADD.out.mono ?_
          rintro e w3 ⟨rfl, rfl⟩
          rw [addW, H3.out, if_neg (by simp)]
          go_wp2_with fail
          have hV3 := HV2.out.set (.slice none 0 0)
          have b3 := b2'.setCell (p := ⟨w.heap.size + 1, 0, none⟩) (by simp) (.slice none 0 0)
          refine bodyPost_ret (v := .tuple #[.agg #[.slice none 0 0], .bool false]) (by have ⟨⟨_, q1⟩, _⟩ := hV3; simp [results, Tryz.results57, go_sem, q1]) rfl ?_
          exact ⟨none, 0, [], by rw [H1.out, H2.out]; rfl, by rw [H2.out]; exact RowsP.nil _ _, b3⟩

set_option maxRecDepth 100000 in
set_option maxHeartbeats 1000000 in
theorem iMOA_any (a : Option Addr) (xs : List Int) (cap : Nat) (w : World) (hx : Rd w a xs) (_hcap : xs.length ≤ cap) :
    Calls Tryz.prog 28 #[.slice a xs.length cap] w fun e w' => ∃ a0 c0 vl, e = .returned (.tuple #[.agg #[.slice a0 (moaL xs).length c0], .bool (ascB xs)]) ∧ RowsP w' w.heap.size (.slice a0 (moaL xs).length c0) vl (moaL xs) ∧ Below w.heap.size w w' := by
  have hlen := hx.len
  have hV := Var1.new w (.slice none 0 0) 45
  have hb0 : Below w.heap.size w (w.alloc (.cells #[.slice none 0 0] 45)) := (by repeat (first | exact Below.refl _ _ | assumption | refine Below.alloc ?_ (by first | exact Nat.le_refl _ | (simp only [World.size_alloc, World.size_setCell, World.size_drew]; omega) | omega) _ | refine Below.setCell ?_ (by first | exact Nat.le_refl _ | (simp only [World.size_alloc, World.size_setCell, World.size_drew]; omega) | omega) _ | refine Below.drew ?_))
  cases hm : ascB xs
  · have HM := Lib.hid hm
    have H1 : Hid (moaL xs = []) := by simp [Hid, moaL, hm]
    clear hm
    go_enter Tryz.func28, Tryz.ntmps28
    go_wp2_with fail
    refine (iIsAscent_any _ _ _ _ (hx.below hb0)).mono ?_
    rintro e w1 ⟨rfl, hb⟩
    rw [HM.out]
    have b1 : Below w.heap.size w w1 := hb0.trans (hb.mono (by simp))
    have hV1 := hV.below hb
    have ⟨⟨zV, cV⟩, fV⟩ := hV1
    clear hb hV
    go_wp2_with fail
    have hV3 := hV1.set (.slice none 0 0)
    have b3 := b1.setCell (p := ⟨w.heap.size, 0, none⟩) (by simp) (.slice none 0 0)
    refine bodyPost_ret (v := .tuple #[.agg #[.slice none 0 0], .bool false]) (by have ⟨⟨_, q1⟩, _⟩ := hV3; simp [results, Tryz.results28, go_sem, q1]) rfl ?_
    exact ⟨none, 0, [], by rw [H1.out]; rfl, by rw [H1.out]; exact RowsP.nil _ _, b3⟩
  · have HM := Lib.hid hm
    have H1 : Hid (moaL xs = moK xs xs.length) := by simp [Hid, moaL, hm]
    have HX := Lib.hid hx
    have h12 := (ascB_iff.1 hm).1
    have HNX := Lib.hid (fun k (hk : k < xs.length) => moK_next hm hk)
    have HGB := Lib.hid (fun k (hk : k < xs.length) => moK_gw hm hk)
    have HSZ := Lib.hid (fun k (hk : k ≤ xs.length) => moK_size hm hk)
    have HNB := Lib.hid (fun k (hk : k < xs.length) => ascB_small hm hk)
    clear hm
    go_enter Tryz.func28, Tryz.ntmps28
    go_wp2_with fail
    refine (iIsAscent_any _ _ _ _ (hx.below hb0)).mono ?_
    rintro e w1 ⟨rfl, hb⟩
    rw [HM.out]
    have b1 : Below w.heap.size w w1 := hb0.trans (hb.mono (by simp))
    have hz1 : w.heap.size + 1 ≤ w1.heap.size := by have := hb.size; simpa using this
    have bb1 : Below w1.heap.size w1 (w1.alloc (.cells #[.slice none 0 0] 45)) := (by repeat (first | exact Below.refl _ _ | assumption | refine Below.alloc ?_ (by first | exact Nat.le_refl _ | (simp only [World.size_alloc, World.size_setCell, World.size_drew]; omega) | omega) _ | refine Below.setCell ?_ (by first | exact Nat.le_refl _ | (simp only [World.size_alloc, World.size_setCell, World.size_drew]; omega) | omega) _ | refine Below.drew ?_))
    have HV1 := Lib.hid ((hV.below hb).below bb1)
    have HO1 := Lib.hid (Var1.new w1 (.slice none 0 0) 45)
    have HB1 := Lib.hid (b1.trans (bb1.mono b1.size))
    obtain ⟨b4, hb4⟩ : ∃ b4, b4 = w1.heap.size := ⟨_, rfl⟩
    have HB4 := Lib.hid hb4
    have hz4 : w.heap.size + 1 ≤ b4 := by omega
    rw [← hb4] at HO1
    obtain ⟨N, hN⟩ : ∃ N, N = xs.length := ⟨_, rfl⟩
    have HN := Lib.hid hN
    rw [← hN] at hlen H1 h12 HNX HGB HSZ HNB ⊢
    clear hb hV bb1 hx b1 hb4 hN
    go_wp2_with fail
    go_loopw [13] (fun i wr => ∃ (k : Nat) (v : Value) (vl : List Value), k ≤ N ∧ i = .int .i64 k ∧ Var1 wr b4 v ∧ RowsP wr (b4 + 1) v vl (moK xs k) ∧ Var1 wr w.heap.size (.slice none 0 0) ∧ Below w.heap.size w wr) (fun i _ => N - (intOf i).toNat)
    case atStart => exact ⟨0, .slice none 0 0, [], Nat.zero_le _, rfl, HO1.out, RowsP.nil _ _, HV1.out, HB1.out⟩
    case round =>
      rw [← HB4.out]
      obtain ⟨k, v, vl, hk, rfl, hO, hro, hV, hb⟩ := hrel
      have hbs := hb.size
      have hO9 := hO.1.1
      obtain ⟨av, cv, ev⟩ := hro.o.form
      subst ev
      have ⟨⟨zO, cO⟩, fO⟩ := hO
      by_cases hlt : k < N
      · have k1 : (k : Int) < (N : Int) := by omega
        obtain ⟨b, off, rfl, hbl, hc⟩ := (HX.out.below hb).cell k (by rw [← HN.out]; exact hlt)
        have hnb := HNB.out k hlt
        have HG := Lib.hid (iGrow_any av (moK xs k) cv (nth xs k) wr hro.rdC (HSZ.out k hk) (by omega))
        rw [HGB.out k hlt, HNX.out k hlt] at HG
        have HV := Lib.hid hV
        have HO := Lib.hid hO
        obtain ⟨x, hxx⟩ : ∃ x, x = nth xs k := ⟨_, rfl⟩
        rw [← hxx] at HG hc hnb
        obtain ⟨L, hL⟩ : ∃ L, L = (moK xs (k+1)).length := ⟨_, rfl⟩
        have HL := Lib.hid hL
        rw [← hL] at HG
        generalize (moK xs k).length = L0 at HG cO ⊢
        clear hro hV hO hxx hL
        go_wp2_with fail
        refine HG.out.mono ?_
        rintro e w2 ⟨a2, c2, ul, rfl, hro2, hb2⟩
        have hO2 := HO.out.below hb2
        have hV2 := HV.out.below hb2
        have b2 := hb.trans (hb2.mono hbs)
        have ⟨⟨zO2, cO2⟩, fO2⟩ := hO2
        have hs2 := hb2.size
        have hO3 := hO2.set (.slice a2 L c2)
        have hV3 := hV2.other (p := ⟨b4, 0, none⟩) (.slice a2 L c2) (show w.heap.size ≠ b4 by omega)
        have hro3 := (hro2.setBelow (p := ⟨b4, 0, none⟩) hO9 (.slice a2 L c2)).mono (B' := b4 + 1) (by omega)
        have b3 := b2.setCell (p := ⟨b4, 0, none⟩) (show w.heap.size ≤ b4 by omega) (.slice a2 L c2)
        have H6 := Lib.hid (And.intro hO3 (And.intro hro3 (And.intro hV3 b3)))
        clear hro2 hO2 hV2 hO3 hV3 hro3 b3 hb2
        go_wp2_with fail
        go_roundw
        case rel => exact ⟨k + 1, _, _, by omega, by go_num, H6.out.1, H6.out.2.1, H6.out.2.2.1, H6.out.2.2.2⟩
        case measure => simp [intOf]; omega
      · obtain rfl : k = N := by omega
        have ⟨⟨zV, cV⟩, fV⟩ := hV
        obtain ⟨L, hL⟩ : ∃ L, L = (moK xs k).length := ⟨_, rfl⟩
        have HL := Lib.hid hL
        rw [← hL] at hro cO
        have HRO := Lib.hid hro
        have HV := Lib.hid hV
        clear hro hO hV hL
        go_wp2_with fail
        have hV2 := HV.out.set (.slice av L cv)
        have b2 := hb.setCell (p := ⟨w.heap.size, 0, none⟩) (by simp) (.slice av L cv)
        refine bodyPost_ret (v := .tuple #[.agg #[.slice av L cv], .bool true]) (by have ⟨⟨_, q1⟩, _⟩ := hV2; simp [results, Tryz.results28, go_sem, q1]) rfl ?_
        exact ⟨av, cv, vl, by rw [H1.out, HL.out], by rw [H1.out, ← HL.out]; exact (HRO.out.setBelow (show w.heap.size < b4 + 1 by omega) _).mono (by omega), b2⟩

theorem RowsP.cut {w : World} {B : Nat} {v : Value} {vl : List Value} {xss : List (List Int)} (h : RowsP w B v vl xss) {U : Nat} (hU : w.heap.size ≤ U) : (∀ c, v.ownBlock = some c → B ≤ c ∧ c < U) ∧ ∀ k, k < xss.length → ∀ c, (valAt vl k).ownBlock = some c → B ≤ c ∧ c < U :=
  ⟨fun c e => by have := h.o.lt c e; omega, fun k hk c e => by have := (h.o.row k hk).lt c e; omega⟩
theorem RowsP.touch {lo hi : Nat} {w w' : World} {B : Nat} {v : Value} {vl : List Value} {xss : List (List Int)} (h : RowsP w B v vl xss) (ht : TouchS lo hi w w') (h1 : ∀ c, v.ownBlock = some c → c < lo ∨ hi ≤ c) (h2 : ∀ k, k < xss.length → ∀ c, (valAt vl k).ownBlock = some c → c < lo ∨ hi ≤ c) : RowsP w' B v vl xss := by
  refine ⟨⟨⟨h.o.own.1, ?_⟩, fun k hk => (h.o.row k hk).touch ht (h2 k hk), h.o.apart⟩, h.pair⟩
  rcases h.o.own.2 with hn | ⟨g, cap, cur, e, hb', hg, rest⟩
  · exact .inl hn
  · refine .inr ⟨g, cap, cur, e, hb', ?_, rest⟩
    rw [ht.block g (Array.getElem?_eq_some_iff.1 hg).1 (h1 g (by rw [e]; rfl))]
    exact hg
theorem RowsP.kept {w w' : World} {B : Nat} {v : Value} {vl : List Value} {xss : List (List Int)} {row : Option Nat} (h : RowsP w B v vl xss) (hg : w.grownBy w' row) (h1 : ∀ c, v.ownBlock = some c → row ≠ some c) (h2 : ∀ k, k < xss.length → ∀ c, (valAt vl k).ownBlock = some c → row ≠ some c) : RowsP w' B v vl xss := by
  have e : ∀ u : Value, (∀ c, u.ownBlock = some c → row ≠ some c) → u.ownBlock = none ∨ u.ownBlock ≠ row := fun u hu => by
    cases hv : u.ownBlock with
    | none => exact .inl rfl
    | some c => exact .inr (fun e => hu c hv e.symm)
  exact ⟨⟨World.ownsRow.kept h.o.own hg (e v h1), fun k hk => (h.o.row k hk).kept hg (e _ (h2 k hk)), h.o.apart⟩, h.pair⟩
theorem OwnS.mono {w : World} {B B' g : Nat} {vl : List Value} {xss : List (List Int)} (h : OwnS w B g vl xss) (hB : B' ≤ B) : OwnS w B' g vl xss := ⟨Nat.le_trans hB h.lo, h.hi, h.max, h.cell, h.row, h.apart⟩
theorem TouchS.of_below {B lo hi : Nat} {w w1 w2 : World} (hb : Below w.heap.size w w1) (h : TouchS lo hi w1 w2) : TouchS lo hi w w2 :=
  ⟨h.os.trans hb.os, h.tape.trans hb.tape, h.output.trans hb.output, Nat.le_trans hb.size h.size, fun k hk hn => (h.block k (Nat.lt_of_lt_of_le hk hb.size) hn).trans (hb.block k hk)⟩



def ctF (e : Nat → Nat → Nat) (i j t b : Nat) : Nat := if b < j then cS e b (i+1) else if b = j then cS e b i + t else cS e b i
/-- the openers whose closers are to come, for each run of closers -/
def opR (e : Nat → Nat → Nat) (d i j t : Nat) : List (List Int) := (List.range d).map (fun b => fmap (fun s => (tmF e d (cP e d b + s) : Int)) (ctF e i j t b))
theorem opR_len (e : Nat → Nat → Nat) (d i j t : Nat) : (opR e d i j t).length = d := by simp [opR]
theorem opR_row (e : Nat → Nat → Nat) {d b : Nat} (i j t : Nat) (h : b < d) : rowL (opR e d i j t) b = fmap (fun s => (tmF e d (cP e d b + s) : Int)) (ctF e i j t b) := by simp [opR, rowL, h]
theorem opR_ext {e : Nat → Nat → Nat} {d i j t i' j' t' : Nat} (h : ∀ b, b < d → ctF e i j t b = ctF e i' j' t' b) : opR e d i j t = opR e d i' j' t' := by
  simp only [opR]
  apply List.map_congr_left
  intro b hb
  rw [h b (by simpa using hb)]
theorem opR_nextj (e : Nat → Nat → Nat) (d i j : Nat) : opR e d i j (e i j) = opR e d i (j+1) 0 := opR_ext (fun b hb => by
  unfold ctF
  by_cases h1 : b < j
  · rw [if_pos h1, if_pos (by omega)]
  · rw [if_neg h1]
    by_cases h2 : b = j
    · subst h2; rw [if_pos rfl, if_pos (by omega)]; rfl
    · rw [if_neg h2, if_neg (by omega)]
      split <;> rfl)
theorem opR_nexti (e : Nat → Nat → Nat) (d i : Nat) : opR e d i d 0 = opR e d (i+1) 0 0 := opR_ext (fun b hb => by
  unfold ctF
  rw [if_pos hb, if_neg (by omega)]
  split <;> rfl)
theorem opR_zero (e : Nat → Nat → Nat) (d : Nat) : List.replicate d [] = opR e d 0 0 0 := by
  apply List.ext_getElem (by simp [opR])
  intro b h1 h2
  have hb : b < d := by simpa using h1
  have hc : ctF e 0 0 0 b = 0 := by
    unfold ctF
    rw [if_neg (by omega)]
    split <;> rfl
  simp [opR, hc, fmap]
theorem opR_set {e : Nat → Nat → Nat} {d i j t X : Nat} (hj : j < d) (hX : tmF e d (cP e d j + cS e j i + t) = X) : (opR e d i j t).set j (rowL (opR e d i j t) j ++ [(X : Int)]) = opR e d i j (t+1) := by
  have hr := opR_row e i j t hj
  have hcj : ctF e i j t j = cS e j i + t := by rw [ctF, if_neg (by omega), if_pos rfl]
  have hcj2 : ctF e i j (t+1) j = cS e j i + t + 1 := by rw [ctF, if_neg (by omega), if_pos rfl]; omega
  rw [hr, hcj]
  apply List.ext_getElem (by rw [List.length_set, opR_len, opR_len])
  intro b h1 h2
  have hb : b < d := by rw [opR_len] at h2; exact h2
  rw [List.getElem_set]
  by_cases e1 : j = b
  · subst e1
    rw [if_pos rfl]
    simp only [opR, List.getElem_map, List.getElem_range]
    rw [hcj2, fmap_succ, ← hX, Nat.add_assoc (cP e d j)]
  · rw [if_neg e1]
    simp only [opR, List.getElem_map, List.getElem_range]
    have : ctF e i j t b = ctF e i j (t+1) b := by
      unfold ctF
      by_cases h3 : b < j
      · rw [if_pos h3, if_pos h3]
      · rw [if_neg h3, if_neg h3, if_neg (fun h => e1 h.symm), if_neg (fun h => e1 h.symm)]
    rw [this]
/-- the openers of the run of closers i, all of them -/
theorem opR_full {e : Nat → Nat → Nat} {d i : Nat} (hu : UpN e) (hi : i < d) : rowL (opR e d i d 0) i = fmap (fun s => (tmF e d (cP e d i + s) : Int)) (cS e i d) := by
  rw [opR_row e i d 0 hi]
  congr 1
  rw [ctF, if_pos hi]
  have : ∀ k, i + 1 ≤ k → cS e i k = cS e i (i+1) := by
    intro k hk
    induction k with
    | zero => omega
    | succ k ih =>
      by_cases e0 : i + 1 = k + 1
      · rw [e0]
      · have h1 : cS e i (k+1) = cS e i k + e k i := rfl
        rw [h1, ih (by omega), hu k i (by omega)]; omega
  exact (this d (by omega)).symm
/-- a row that lies below what changes -/
theorem OwnI.far {w w' : World} {B0 B g n c : Nat} {xs : List Int} (h : OwnI w B0 (.slice (some ⟨g, 0, none⟩) n c) xs) (hb : Below B w w') (hg : g < B) : OwnI w' B0 (.slice (some ⟨g, 0, none⟩) n c) xs := by
  refine ⟨h.1, ?_⟩
  rcases h.2 with hn | ⟨g', cap, cur, e, hb', hgg, rest⟩
  · exact .inl hn
  · refine .inr ⟨g', cap, cur, e, hb', ?_, rest⟩
    simp only [Value.slice.injEq, Option.some.injEq, Addr.mk.injEq, and_true] at e
    rw [hb.block g' (by omega)]
    exact hgg
/-- a list that grows in its block, and rows of numbers behind it -/
structure StM (W0 W : World) (B0 B gp go N d L : Nat) (ps : List Int) (vl : List Value) (rs : List (List Int)) : Prop where
  o : OwnI W B0 (.slice (some ⟨gp, 0, none⟩) L N) ps
  r : RowsP W B (.slice (some ⟨go, 0, none⟩) d d) vl rs
  l : ps.length = L
  lr : rs.length = d
  lo : B0 ≤ gp
  hi : gp < B
  bs : B ≤ W.heap.size
  b : Below B0 W0 W
theorem StM.push {W0 W W' : World} {B0 B gp go N d L : Nat} {ps ps' : List Int} {vl : List Value} {rs : List (List Int)} (h : StM W0 W B0 B gp go N d L ps vl rs) (hg : W.grownBy W' (some gp)) (ho : OwnI W' B0 (.slice (some ⟨gp, 0, none⟩) (L+1) N) ps') (hl : ps'.length = L + 1) : StM W0 W' B0 B gp go N d (L+1) ps' vl rs := by
  have ⟨c1, c2⟩ := h.r.cut (Nat.le_refl _)
  have h1 := h.hi
  refine ⟨ho, h.r.kept hg (fun c e e2 => ?_) (fun k hk c e e2 => ?_), hl, h.lr, h.lo, h.hi, Nat.le_trans h.bs hg.size, h.b.trans (grown_below hg _ h.lo (Nat.le_trans h.b.size (Nat.le_refl _) |> fun _ => Nat.le_trans (Nat.le_trans h.lo (Nat.le_of_lt h.hi)) h.bs))⟩
  · have := (c1 c e).1
    simp only [Option.some.injEq] at e2; omega
  · have := (c2 k hk c e).1
    simp only [Option.some.injEq] at e2; omega
theorem StM.grow {W0 W w3 : World} {B0 B gp go N d L : Nat} {ps : List Int} {vl : List Value} {rs : List (List Int)} (h : StM W0 W B0 B gp go N d L ps vl rs) {j : Nat} (hj : j < d) {v' : Value} {r : List Int} (hg : W.grownBy w3 (valAt vl j).ownBlock) (ho : OwnI w3 B v' r) (hat : v'.ownBlock = (valAt vl j).ownBlock ∨ v'.ownBlock = some (W.heap.size + 1)) :
    (∃ z, w3.cell? ⟨go, j, none⟩ = some z) ∧ w3.frozen? ⟨go, j, none⟩ = false ∧ StM W0 (w3.setCell ⟨go, j, none⟩ v') B0 B gp go N d L ps (vl.set j v') (rs.set j r) := by
  have hjr : j < rs.length := by rw [h.lr]; exact hj
  obtain ⟨g', c', ev, hB', hg', hz, hf, HR⟩ := h.r.growRow hjr hg ho (fun c e => by
    rcases hat with h1 | h1
    · exact .inl (h1 ▸ e)
    · rw [h1] at e
      simp only [Option.some.injEq] at e
      exact .inr (by omega))
  simp only [Value.slice.injEq, Option.some.injEq, Addr.mk.injEq, and_true] at ev
  obtain ⟨rfl, -, rfl⟩ := ev
  have hlo := h.lo
  have hhi := h.hi
  have hb3 : Below B W w3 := below_of_grown hg (fun c e => ((h.r.o.row j hjr).lt c e).1) h.bs
  have hgr := grown_set w3 ⟨go, j, none⟩ v'
  refine ⟨hz, hf, ⟨(h.o.far hb3 hhi).kept hgr (own_b (by show gp ≠ go; omega)), ?_, h.l, by rw [List.length_set]; exact h.lr, h.lo, h.hi, ?_, (h.b.trans (hb3.mono (by omega))).setCell (p := ⟨go, j, none⟩) (by show B0 ≤ go; omega) _⟩⟩
  · exact HR
  · have := h.bs; have := hb3.size; simp; omega
theorem StM.putP {W0 W : World} {B0 B gp go N d L : Nat} {ps : List Int} {vl : List Value} {rs : List (List Int)} (h : StM W0 W B0 B gp go N d L ps vl rs) (i : Nat) (x : Int) : StM W0 (W.setCell ⟨gp, i, none⟩ (.int .i64 x)) B0 B gp go N d L (ps.set i x) vl rs := by
  have hp := h.o.put h.l.symm i x
  have ⟨c1, c2⟩ := h.r.cut (Nat.le_refl _)
  have h1 := h.hi
  refine ⟨hp.1, h.r.kept hp.2 (fun c e e2 => ?_) (fun k hk c e e2 => ?_), by rw [List.length_set]; exact h.l, h.lr, h.lo, h.hi, by simpa using h.bs, h.b.setCell (p := ⟨gp, i, none⟩) h.lo _⟩
  · have := (c1 c e).1
    simp only [Option.some.injEq] at e2; omega
  · have := (c2 k hk c e).1
    simp only [Option.some.injEq] at e2; omega

def smV (xss : List (List Int)) : Int := if mxB xss then matS xss xss.length else 0

theorem iSumMx_any (a : Option Addr) (xss : List (List Int)) (cap : Nat) (w : World) (hx : RdC w a xss) (hs : xss.length + totS xss xss.length ≤ 1048576) :
    Calls Tryz.prog 53 #[.agg #[.slice a xss.length cap]] w fun e w' => e = .returned (.tuple #[.int .i64 (smV xss), .bool (mxB xss)]) ∧ Below w.heap.size w w' := by
  have hlen := hx.rd.len
  have HCL := Lib.hid (fun W (h : RdC W a xss) => rowsOf_any a xss cap W h hs)
  cases hm : mxB xss
  · have HM := Lib.hid hm
    have H1 : Hid (smV xss = 0) := by simp [Hid, smV, hm]
    clear hm
    go_enter Tryz.func53, Tryz.ntmps53
    go_wp2_with fail
    refine (HCL.out _ (hx.below (by repeat (first | exact Below.refl _ _ | assumption | refine Below.alloc ?_ (by first | exact Nat.le_refl _ | (simp only [World.size_alloc, World.size_setCell, World.size_drew]; omega) | omega) _ | refine Below.setCell ?_ (by first | exact Nat.le_refl _ | (simp only [World.size_alloc, World.size_setCell, World.size_drew]; omega) | omega) _ | refine Below.drew ?_)))).mono ?_
    rintro e w1 ⟨s, va, vn, vc, rfl, _, hb⟩
    rw [HM.out]
    have b1 : Below w.heap.size w w1 := Below.trans (by repeat (first | exact Below.refl _ _ | assumption | refine Below.alloc ?_ (by first | exact Nat.le_refl _ | (simp only [World.size_alloc, World.size_setCell, World.size_drew]; omega) | omega) _ | refine Below.setCell ?_ (by first | exact Nat.le_refl _ | (simp only [World.size_alloc, World.size_setCell, World.size_drew]; omega) | omega) _ | refine Below.drew ?_)) (hb.mono (by first | (simp only [World.size_alloc, World.size_setCell, World.size_drew]; omega) | omega))
    clear hb
    go_wp2_with fail
    go_ret2
    exact ⟨ret_ib' H1.out.symm rfl, b1.alloc b1.size _⟩
  · have HM := Lib.hid hm
    have H1 : Hid (smV xss = matS xss xss.length) := by simp [Hid, smV, hm]
    clear hm
    go_enter Tryz.func53, Tryz.ntmps53
    go_wp2_with fail
    refine (HCL.out _ (hx.below (by repeat (first | exact Below.refl _ _ | assumption | refine Below.alloc ?_ (by first | exact Nat.le_refl _ | (simp only [World.size_alloc, World.size_setCell, World.size_drew]; omega) | omega) _ | refine Below.setCell ?_ (by first | exact Nat.le_refl _ | (simp only [World.size_alloc, World.size_setCell, World.size_drew]; omega) | omega) _ | refine Below.drew ?_)))).mono ?_
    rintro e w1 ⟨s, va, vn, vc, rfl, hok, hb⟩
    have hok2 := Lib.hid (hok HM.out).1
    rw [HM.out]
    have b1 : Below w.heap.size w w1 := Below.trans (by repeat (first | exact Below.refl _ _ | assumption | refine Below.alloc ?_ (by first | exact Nat.le_refl _ | (simp only [World.size_alloc, World.size_setCell, World.size_drew]; omega) | omega) _ | refine Below.setCell ?_ (by first | exact Nat.le_refl _ | (simp only [World.size_alloc, World.size_setCell, World.size_drew]; omega) | omega) _ | refine Below.drew ?_)) (hb.mono (by first | (simp only [World.size_alloc, World.size_setCell, World.size_drew]; omega) | omega))
    clear hb hok
    go_wp2_with fail
    go_ret2
    exact ⟨ret_ib' (by rw [H1.out, hok2.out]) rfl, b1.alloc b1.size _⟩

/-- what a call hands back that makes a list -/
def GotI (w : World) (ys : List Int) (ok : Bool) (e : Ending) (w' : World) : Prop :=
  ∃ a cap, e = .returned (.tuple #[.slice a ys.length cap, .bool ok]) ∧ OwnI w' w.heap.size (.slice a ys.length cap) ys ∧ Below w.heap.size w w'
theorem gotI_no {w w' : World} {ys : List Int} {ok : Bool} (h1 : ys = []) (h2 : ok = false) (hb : Below w.heap.size w w') : GotI w ys ok (.returned (.tuple #[.slice none 0 0, .bool false])) w' :=
  ⟨none, 0, by rw [h1, h2]; rfl, by rw [h1]; exact OwnI.nil _ _, hb⟩

set_option maxRecDepth 100000 in
set_option maxHeartbeats 1000000 in
theorem iMtMx_any (a : Option Addr) (xss : List (List Int)) (cap : Nat) (w : World) (hx : RdC w a xss) (hs : xss.length + totS xss xss.length ≤ 1048576) :
    Calls Tryz.prog 29 #[.agg #[.slice a xss.length cap]] w (GotI w (tmL xss) (mxB xss)) := by
  obtain ⟨i0, hi, hz0, hz1, hz2⟩ := info_parts infoInt
  obtain ⟨j0, hj0, hy0, hy1, hy2⟩ := info_parts infoRow0
  obtain ⟨W0, hW0⟩ : ∃ x : World, x = w.alloc (.cells #[.slice a xss.length cap] 45) := ⟨_, rfl⟩
  have bw0 : Below w.heap.size w W0 := by rw [hW0]; exact (Below.refl _ _).alloc (Nat.le_refl _) _
  have B0 : Box1 W0 w.heap.size (.slice a xss.length cap) := by rw [hW0]; exact Box1.new w _ _
  have hx0 := hx.below bw0
  obtain ⟨g0, hg0⟩ : ∃ g, g = w.heap.size := ⟨_, rfl⟩
  have HSM := Lib.hid (fun W (h : RdC W a xss) => iSumMx_any a xss cap W h hs)
  clear hx
  cases hb0 : mxB xss
  · have HL : Hid (tmL xss = []) := by simp [Hid, tmL, hb0]
    rw [hb0] at HSM
    clear hb0
    go_enter Tryz.func29, Tryz.ntmps29
    go_wp2_with fail
    rw [← hW0]
    rw [← hg0] at B0 ⊢
    have ⟨zB0, cB0⟩ := B0
    clear hg0 hW0
    go_wp2_with fail
    refine (HSM.out _ hx0).mono ?_
    rintro e w1 ⟨rfl, hb⟩
    clear cB0
    go_wp2_with fail
    refine bodyPost_ret (v := .tuple #[.slice none 0 0, .bool false]) (by simp [results, Tryz.results29, go_sem]) rfl ?_
    exact gotI_no HL.out rfl (bw0.trans (hb.mono bw0.size))
  · have h12 := mxB_small hb0
    have ⟨hN2, hN24⟩ := en_two hb0
    have HSV : Hid (smV xss = matS xss xss.length) := by simp [Hid, smV, hb0]
    have HIN := Lib.hid (tm_Inv (d := xss.length) (en_up xss))
    have HTL : Hid (tmL xss = P2 (tmF (enN xss) xss.length) (oP (enN xss) xss.length xss.length)) := by rw [Hid, tmL, if_pos hb0, P2_all HIN.out]
    have HM := Lib.hid hb0
    have HU := Lib.hid (en_up xss)
    rw [hb0, HSV.out] at HSM
    obtain ⟨N, hN⟩ : ∃ N, N = oP (enN xss) xss.length xss.length := ⟨_, rfl⟩
    obtain ⟨S, hS⟩ : ∃ S, S = matS xss xss.length := ⟨_, rfl⟩
    rw [← hN, ← hS] at hN2
    rw [← hN] at hN24
    rw [← hN] at HTL HIN
    rw [← hS] at HSM
    have hS0 : 0 ≤ S ∧ S ≤ 12 := by omega
    have HN := Lib.hid hN
    clear hS hb0 hN
    go_enter Tryz.func29, Tryz.ntmps29
    go_wp2_with fail
    rw [← hW0]
    rw [← hg0] at B0 ⊢
    have ⟨zB0, cB0⟩ := B0
    clear hg0 hW0
    go_wp2_with fail
    refine (HSM.out _ hx0).mono ?_
    rintro e w1 ⟨rfl, hb1⟩
    have ⟨zB1, cB1⟩ := B0.below hb1
    clear cB0
    go_wp2_with (first
      | (at_make; refine wpList_make_own _ rfl _ (.tmp 22) 24 rfl W0.heap.size 3 i0 (.int .i64 0) 1 Tryz.underlying24 hi hz0 hz1 .i64 .i64 _ N rfl rfl (by omega) (by rw [hz2]; omega) (by unfold maxLen; omega) hb1.size ?_; intro w3 hown3 hgrow3; have b3 : Below W0.heap.size W0 w3 := hb1.grown hgrow3 hb1.size (fun k h => by cases h); have hp3 : OwnI w3 W0.heap.size (.slice (some ⟨w1.heap.size, 0, none⟩) 0 N) [] := hown3; have ⟨zB3, cB3⟩ := B0.below b3; clear cB1)
      | (at_make; have _t := hp3; refine wpList_make_full _ rfl (.tmp 26) (.tmp 26) 43 rfl w3.heap.size 24 j0 (.slice none 0 0) 1 Tryz.underlying43 hj0 hy0 hy1 .i64 .i64 _ _ xss.length rfl rfl rfl rfl (by rw [hy2]; omega) (by unfold maxLen; omega) (Nat.le_refl _) ?_; intro w4 hown4 hgrow4; have b4 : Below W0.heap.size W0 w4 := b3.grown hgrow4 b3.size (fun k h => by cases h); have ⟨zB4, cB4⟩ := B0.below b4; clear cB3))
    have hp4 := hp3.kept hgrow4 (Classical.em _)
    have hr4 : RowsP w4 w3.heap.size (.slice (some ⟨w3.heap.size, 0, none⟩) xss.length xss.length) (List.replicate xss.length (.slice none 0 0)) (opR (enN xss) xss.length 0 0 0) := by
      rw [← opR_zero]
      exact RowsP.made (by simpa [Value.cells, toList_madeCells_one] using hown4)
    have hlt3 := (hp3.lt w1.heap.size rfl)
    have T0 : StM W0 w4 W0.heap.size w3.heap.size w1.heap.size w3.heap.size N xss.length 0 (P2 (tmF (enN xss) xss.length) 0) _ _ := ⟨hp4, hr4, rfl, opR_len _ _ _ _ _, hlt3.1, hlt3.2, hgrow4.size, b4⟩
    obtain ⟨gp, hgp⟩ : ∃ g, g = w1.heap.size := ⟨_, rfl⟩
    obtain ⟨go, hgo⟩ : ∃ g, g = w3.heap.size := ⟨_, rfl⟩
    rw [← hgp, ← hgo] at T0
    rw [← hgp, ← hgo]
    clear hown3 hgrow3 hown4 hgrow4 hp3 hp4 hr4 hlt3 hgp hgo b3 b4 hb1 zB1 zB3 _t
    go_wp2_with fail
    go_loopw [6, 31] (fun v6 i wr => ∃ (k : Nat) (vl : List Value), k ≤ xss.length ∧ i = .int .i64 k ∧ v6 = .slice (some ⟨gp, 0, none⟩) (oP (enN xss) xss.length k) N ∧ StM W0 wr W0.heap.size go gp go N xss.length (oP (enN xss) xss.length k) (P2 (tmF (enN xss) xss.length) (oP (enN xss) xss.length k)) vl (opR (enN xss) xss.length k 0 0)) (fun _ i _ => xss.length - (intOf i).toNat)
    case atStart => exact ⟨0, _, Nat.zero_le _, rfl, rfl, T0⟩
    case round =>
      clear T0 cB4 zB4
      obtain ⟨k, vl, hk, rfl, rfl, T⟩ := hrel
      have hk24 : oP (enN xss) xss.length k ≤ N := by rw [HN.out]; exact sN_up _ hk
      by_cases hlt : k < xss.length
      · have hx1 := hx0
        obtain ⟨b, off, a', cap', rfl, hbl0, hc0, hr0, hcp⟩ := hx1.row hlt
        have hbl : b < wr.heap.size := by have := T.b.size; omega
        have hc := (T.b.cell (p := ⟨b, off + k, none⟩) hbl0).trans hc0
        have hrow := mxB_len HM.out hlt
        have HR0 := Lib.hid hr0
        have HEN := Lib.hid (fun j (hj : j < xss.length) => en_at HM.out hlt hj)
        have HNX : Hid (oP (enN xss) xss.length k + rS (enN xss) k xss.length = cP (enN xss) xss.length k) := rfl
        rw [hrow] at hc
        clear hc0 hr0 hx1
        go_wp2_with fail
        go_loopw [6, 38] (fun v6 i wi => ∃ (j : Nat) (vl : List Value), j ≤ xss.length ∧ i = .int .i64 j ∧ v6 = .slice (some ⟨gp, 0, none⟩) (oP (enN xss) xss.length k + rS (enN xss) k j) N ∧ StM W0 wi W0.heap.size go gp go N xss.length (oP (enN xss) xss.length k + rS (enN xss) k j) (P2 (tmF (enN xss) xss.length) (oP (enN xss) xss.length k + rS (enN xss) k j)) vl (opR (enN xss) xss.length k j 0)) (fun _ i _ => xss.length - (intOf i).toNat)
        case atStart => exact ⟨0, vl, Nat.zero_le _, rfl, rfl, T⟩
        case round =>
          clear T hc hbl vl
          obtain ⟨j, vl, hj, rfl, rfl, T⟩ := hrel
          by_cases hjl : j < xss.length
          · obtain ⟨b', off', rfl, hbl', hc'⟩ := (HR0.out.below T.b).cell j (by rw [hrow]; exact hjl)
            have hce := HEN.out j hjl
            rw [show nth (rowL xss k) j = atM xss k j from rfl, hce] at hc'
            have hj1 : (j : Int) < (xss.length : Int) := by omega
            have HRS : Hid (rS (enN xss) k (j+1) = rS (enN xss) k j + enN xss k j) := rfl
            have HNJ := Lib.hid (opR_nextj (enN xss) xss.length k j)
            have HOP : Hid (∀ t, t < enN xss k j → tmF (enN xss) xss.length (oP (enN xss) xss.length k + rS (enN xss) k j + t) = cP (enN xss) xss.length j + cS (enN xss) j k + t) := fun t ht => tm_op hlt hjl ht
            have HCL : Hid (∀ t, t < enN xss k j → tmF (enN xss) xss.length (cP (enN xss) xss.length j + cS (enN xss) j k + t) = oP (enN xss) xss.length k + rS (enN xss) k j + t) := fun t ht => tm_cl hlt hjl ht
            have HLT : Hid (∀ t, t < enN xss k j → _) := fun t ht => tm_lt (d := xss.length) HU.out hlt hjl ht
            have HJN : Hid (oP (enN xss) xss.length (j+1) ≤ N) := by rw [Hid, HN.out]; exact sN_up _ (by omega)
            obtain ⟨E, hE⟩ : ∃ E, E = enN xss k j := ⟨_, rfl⟩
            rw [← hE] at hc' HRS HNJ HOP HLT HCL
            have HEE : Hid (E ≤ 12) := by
              have := mxB_num HM.out hlt hjl
              have := HEN.out j hjl
              rw [Hid, hE]; omega
            have hE12 := HEE.out
            clear hce hE
            go_wp2_with fail
            go_loopw [6, 44] (fun v6 i wi => ∃ (t : Nat) (vl : List Value), t ≤ E ∧ i = .int .i64 t ∧ v6 = .slice (some ⟨gp, 0, none⟩) (oP (enN xss) xss.length k + rS (enN xss) k j + t) N ∧ StM W0 wi W0.heap.size go gp go N xss.length (oP (enN xss) xss.length k + rS (enN xss) k j + t) (P2 (tmF (enN xss) xss.length) (oP (enN xss) xss.length k + rS (enN xss) k j + t)) vl (opR (enN xss) xss.length k j t)) (fun _ i _ => E - (intOf i).toNat)
            case atStart => exact ⟨0, vl, Nat.zero_le _, rfl, rfl, T⟩
            case round =>
              clear T hc' vl
              obtain ⟨t, vl, ht, rfl, rfl, T⟩ := hrel
              by_cases htl : t < E
              · have he := HOP.out t htl
                have he2 := HCL.out t htl
                have ⟨l1, l2, l3⟩ := HLT.out t htl
                have l4 := HJN.out
                obtain ⟨X, hX⟩ : ∃ X, X = oP (enN xss) xss.length k + rS (enN xss) k j + t := ⟨_, rfl⟩
                rw [← hX] at T he2 he l1 ⊢
                have HOS := Lib.hid (opR_set (i := k) (t := t) hjl he2)
                have HP2 : Hid (P2 (tmF (enN xss) xss.length) X ++ [0] = P2 (tmF (enN xss) xss.length) (X+1)) := P2_open HIN.out (by omega) (by rw [he]; omega)
                have HX1 : Hid (oP (enN xss) xss.length k + rS (enN xss) k j + (t+1) = X + 1) := by rw [Hid]; omega
                have hXN : X < N := by omega
                have hrl : ((rowL (opR (enN xss) xss.length k j t) j).length : Nat) ≤ 24 := by
                  have h6 : cS (enN xss) j (k+1) = cS (enN xss) j k + enN xss k j := rfl
                  have h7 : cS (enN xss) j (k+1) ≤ cS (enN xss) j xss.length := sN_up _ (by omega)
                  have h8 : oP (enN xss) xss.length (j+1) = oP (enN xss) xss.length j + (rS (enN xss) j xss.length + cS (enN xss) j xss.length) := rfl
                  have h9 : cP (enN xss) xss.length j = oP (enN xss) xss.length j + rS (enN xss) j xss.length := rfl
                  rw [opR_row _ _ _ _ hjl, fmap_len, ctF, if_neg (by omega), if_pos rfl]
                  omega
                clear hX he he2 l1 l2 l3 l4
                have hlr := T.lr
                obtain ⟨gq, eq, hq0, hq1, hq2, hq3⟩ := T.r.outer (k := j) (by rw [hlr]; exact hjl)
                simp only [Option.some.injEq, Addr.mk.injEq, and_true] at eq
                obtain rfl := eq
                have hro := T.r.o.row j (by rw [hlr]; exact hjl)
                obtain ⟨ra, rc, er⟩ := hro.form
                rw [er] at hq2
                have ER := Lib.hid er
                have HT := Lib.hid T
                have hbsz := T.bs
                have hpl := T.l
                rw [er] at hro
                clear er T
                go_wp2_with (first
                  | (at_builtin; have _g := hro; refine push_at rfl _ _ rfl (z := (X : Int)) rfl hro rfl (by omega) hbsz ?_; intro v' w3 o3 hg3 hat3; obtain ⟨va, vc, ev⟩ := o3.form; rw [List.length_append, List.length_singleton] at ev; subst ev; have ⟨⟨z, hz⟩, hf, T3⟩ := HT.out.grow hjl (by rw [ER.out]; exact hg3) o3 (by rw [ER.out]; exact hat3); rw [HOS.out] at T3; have HT3 := Lib.hid T3; clear hq2 hq3 hro T3 o3 hg3 hat3)
                  | (at_builtin; have _g := HT3; refine wpList_append_fits _ rfl _ _ 24 rfl W0.heap.size 3 i0 1 Tryz.underlying24 hi hz1 gp X N ((P2 (tmF (enN xss) xss.length) X).map (Value.int .i64)) rfl (by have h := HT3.out.o.alloc (.cells #[.int .i64 0] 3); unfold OwnI at h; rw [HT3.out.l] at h; exact h) ⟨w3.heap.size, 0, none⟩ 1 1 [.int .i64 0] rfl rfl (by have h := cell_one_new (w3.setCell ⟨go, j, none⟩ (.slice va ((rowL (opR (enN xss) xss.length k j t) j).length + 1) vc)) (.int .i64 0) 3; rw [World.size_setCell] at h; exact h) (by intro u hu; simp at hu; subst hu; rfl) (by omega) ?_; intro w5 ho5 hg5; have T5 := HT3.out.push (ps' := P2 (tmF (enN xss) xss.length) (X+1)) (grown_alloc_set hg5) (by rw [← HP2.out]; unfold OwnI; rw [List.length_append, HT3.out.l, List.map_append]; exact ho5) (P2_len _ _); have HT5 := Lib.hid T5; clear T5 ho5 hg5))
                go_roundw
                case rel => exact ⟨t + 1, _, by omega, by go_num, by rw [HX1.out], by rw [HX1.out]; exact HT5.out⟩
                case measure => simp [intOf]; omega
              · obtain rfl : t = E := by omega
                go_wp2_with fail
                go_roundw
                case rel => exact ⟨j + 1, vl, by omega, by go_num, by rw [HRS.out, ← Nat.add_assoc], by rw [HRS.out, ← HNJ.out, ← Nat.add_assoc]; exact T⟩
                case measure => simp [intOf]; omega
          · obtain rfl : j = xss.length := by omega
            rw [HNX.out] at T ⊢
            have HCK : Hid (cP (enN xss) xss.length k + cS (enN xss) k xss.length = oP (enN xss) xss.length (k+1)) := by
              have h8 : oP (enN xss) xss.length (k+1) = oP (enN xss) xss.length k + (rS (enN xss) k xss.length + cS (enN xss) k xss.length) := rfl
              have h9 := HNX.out
              rw [Hid]; omega
            have HKN : Hid (oP (enN xss) xss.length (k+1) ≤ N) := by rw [Hid, HN.out]; exact sN_up _ (by omega)
            have hkn := HKN.out
            rw [← HCK.out] at hkn
            have HBK : Hid (∀ s, s < cS (enN xss) k xss.length → tmF (enN xss) xss.length (cP (enN xss) xss.length k + s) < cP (enN xss) xss.length k) := fun s hs => tm_back HU.out hlt (by omega) (by rw [← HCK.out]; omega)
            have HNI := Lib.hid (opR_nexti (enN xss) xss.length k)
            have HFR := Lib.hid (opR_full (d := xss.length) HU.out hlt)
            have hlr := T.lr
            obtain ⟨gq, eq, hq0, hq1, hq2, hq3⟩ := T.r.outer (k := k) (by rw [hlr]; exact hlt)
            simp only [Option.some.injEq, Addr.mk.injEq, and_true] at eq
            obtain rfl := eq
            have hro := T.r.o.row k (by rw [hlr]; exact hlt)
            rw [HFR.out] at hro
            obtain ⟨ra, rc, er⟩ := hro.form
            rw [fmap_len] at er
            rw [er] at hq2
            have ER := Lib.hid er
            obtain ⟨Y, hY⟩ : ∃ Y, Y = cP (enN xss) xss.length k := ⟨_, rfl⟩
            obtain ⟨M, hM⟩ : ∃ M, M = cS (enN xss) k xss.length := ⟨_, rfl⟩
            rw [← hY] at HCK HBK T hkn HFR ⊢
            rw [← hM] at HCK HBK hkn hq2 ER HFR
            clear hY hM er hro
            go_wp2_with fail
            go_loopw [6, 67] (fun v6 i wi => ∃ s : Nat, s ≤ M ∧ i = .int .i64 s ∧ v6 = .slice (some ⟨gp, 0, none⟩) (Y + s) N ∧ StM W0 wi W0.heap.size go gp go N xss.length (Y + s) (P2 (tmF (enN xss) xss.length) (Y + s)) vl (opR (enN xss) xss.length k xss.length 0)) (fun _ i _ => M - (intOf i).toNat)
            case atStart => exact ⟨0, Nat.zero_le _, rfl, rfl, T⟩
            case round =>
              clear T hq2 hq3
              obtain ⟨s, hs, rfl, rfl, T⟩ := hrel
              by_cases hsl : s < M
              · have hro := T.r.o.row k (by rw [hlr]; exact hlt)
                rw [HFR.out, ER.out] at hro
                have hrl : (fmap (fun s => (tmF (enN xss) xss.length (Y + s) : Int)) M).length = M := fmap_len _ _
                obtain ⟨gr, rfl, hr0, hr1⟩ := hro.head (by omega)
                have ⟨cr, _⟩ := hro.at' hrl.symm (i := s) (by omega)
                rw [fmap_nth _ hsl] at cr
                obtain ⟨X, hX⟩ : ∃ X, X = tmF (enN xss) xss.length (Y + s) := ⟨_, rfl⟩
                have hXY := HBK.out s hsl
                rw [← hX] at cr hXY
                obtain ⟨L, hL⟩ : ∃ L, L = Y + s := ⟨_, rfl⟩
                have HL1 : Hid (Y + (s + 1) = L + 1) := by rw [Hid]; omega
                have HP2 : Hid ((P2 (tmF (enN xss) xss.length) L).set X (L : Int) ++ [(X : Int)] = P2 (tmF (enN xss) xss.length) (L+1)) := by
                  have := P2_close (F := tmF (enN xss) xss.length) (N := N) (L := L) HIN.out (by omega) (by rw [hL, ← hX]; omega)
                  rw [hL, ← hX, ← hL] at this
                  exact this
                rw [← hL] at T ⊢
                have hLN : L < N := by omega
                have hXL : X < L := by omega
                have ⟨cp, fp⟩ := T.o.at' T.l.symm (i := X) (by rw [T.l]; exact hXL)
                have HT1 := Lib.hid (T.putP X (L : Int))
                have HLN : Hid (((P2 (tmF (enN xss) xss.length) L).set X (L : Int)).length = L) := HT1.out.l
                have hrb := T.b.size
                clear hX hXY hL hro T
                go_wp2_with (at_builtin; refine wpList_append_fits _ rfl _ _ 24 rfl W0.heap.size 3 i0 1 Tryz.underlying24 hi hz1 gp L N (((P2 (tmF (enN xss) xss.length) L).set X (L : Int)).map (Value.int .i64)) rfl (by have h := HT1.out.o.alloc (.cells #[.int .i64 (X : Int)] 3); unfold OwnI at h; rw [HT1.out.l] at h; exact h) ⟨wr.heap.size, 0, none⟩ 1 1 [.int .i64 (X : Int)] rfl rfl (by have h := cell_one_new (wr.setCell ⟨gp, X, none⟩ (.int .i64 (L : Int))) (.int .i64 (X : Int)) 3; rw [World.size_setCell] at h; exact h) (by intro u hu; simp at hu; subst hu; rfl) (by omega) ?_; intro w5 ho5 hg5; have T5 := HT1.out.push (ps' := P2 (tmF (enN xss) xss.length) (L+1)) (grown_alloc_set hg5) (by rw [← HP2.out]; unfold OwnI; rw [List.length_append, HLN.out, List.map_append]; exact ho5) (P2_len _ _); have HT5 := Lib.hid T5; clear T5 ho5 hg5)
                go_roundw
                case rel => exact ⟨s + 1, by omega, by go_num, by rw [HL1.out], by rw [HL1.out]; exact HT5.out⟩
                case measure => simp [intOf]; omega
              · obtain rfl : s = M := by omega
                rw [HCK.out, HNI.out] at T
                rw [HCK.out]
                go_wp2_with fail
                go_roundw
                case rel => exact ⟨k + 1, vl, by omega, by go_num, rfl, T⟩
                case measure => simp [intOf]; omega
      · obtain rfl : k = xss.length := by omega
        rw [← HN.out] at T ⊢
        have HTT : Hid ((tmL xss).length = N) := by rw [Hid, HTL.out, P2_len]
        have ho := T.o
        have hbb := T.b
        clear T
        go_wp2_with fail
        refine bodyPost_ret (v := .tuple #[.slice (some ⟨gp, 0, none⟩) N N, .bool true]) (by simp [results, Tryz.results29, go_sem]) rfl ?_
        exact ⟨some ⟨gp, 0, none⟩, N, by rw [HTT.out], by rw [HTT.out, HTL.out]; exact ho.mono bw0.size, bw0.trans (hbb.mono bw0.size)⟩

theorem isOpener_any (a : Option Addr) (xs : List Int) (n cap k : Nat) (w : World) (hx : Rd w a xs) (hk : k < xs.length) (hn : n = xs.length) :
    Calls Tryz.prog 116 #[.slice a n cap, .int .i64 (k : Int)] w fun e w' => e = .returned (.bool (opB xs k)) ∧ w = w' := by
  have hlen := hx.len
  obtain ⟨b, off, rfl, hbl, hc⟩ := hx.cell k hk
  subst hn
  have k1 : (k : Int) < (xs.length : Int) := by omega
  go_enter Tryz.func116, Tryz.ntmps116
  go_wp2_with fail
  go_ret
  exact ⟨rfl, rfl⟩
theorem isOpener_is {a : Option Addr} {xs : List Int} {n cap k : Nat} {w : World} {b : Bool} (hx : Rd w a xs) (hk : k < xs.length) (hn : n = xs.length) (hb : opB xs k = b) (m : Nat) :
    Calls Tryz.prog 116 #[.slice a n cap, .int .i64 (k : Int)] (w.drewN m) fun e w' => e = .returned (.bool b) ∧ ∃ k, w' = w.drewN k :=
  Calls.quiet_of_same ((isOpener_any a xs n cap k (w.drewN m) (hx.below (Joins.below_draws _ _ _)) hk hn).mono (fun e w' hh => ⟨by rw [← hb]; exact hh.1, hh.2.symm⟩))

theorem allArcs_any (a : Option Addr) (xs : List Int) (cap : Nat) (w : World) (hx : Rd w a xs) (hl : xs.length ≤ 24) :
    Calls Tryz.prog 93 #[.slice a xs.length cap] w fun e w' => ∃ a' cap', e = .returned (.slice a' (acN xs xs.length) cap') ∧ OwnV w' w.heap.size (.slice a' (acN xs xs.length) cap') (acN xs xs.length) (acV xs xs.length) ∧ Below w.heap.size w w' := by
  obtain ⟨i0, hi, hz0, hz1, hz2⟩ := info_parts infoIv
  have hd : Int.tdiv (xs.length : Int) 2 = ((xs.length / 2 : Nat) : Int) := by rw [Int.tdiv_eq_ediv_of_nonneg (by omega)]; omega
  go_enter Tryz.func93, Tryz.ntmps93
  go_wp2_with (at_make; refine wpList_make_own _ rfl _ (.tmp 7) 26 rfl w.heap.size 65 i0 (.agg #[.int .i64 0, .int .i64 0]) 2 Tryz.underlying26 hi hz0 hz1 .i64 .i64 _ (xs.length / 2) rfl rfl (by omega) (by rw [hz2]; omega) (by unfold maxLen; omega) (Nat.le_refl _) ?_; intro w1 hown hgrow)
  have hown0 : OwnV w1 w.heap.size (.slice (some ⟨w.heap.size, 0, none⟩) 0 (xs.length / 2)) 0 [] := hown
  have b1 : Below w.heap.size w w1 := (Below.refl _ _).grown hgrow (Nat.le_refl _) (fun k h => by cases h)
  clear hown hgrow hd
  go_wp2_with fail
  go_loopw [3, 11] (fun v i wr => ∃ k : Nat, k ≤ xs.length ∧ i = .int .i64 k ∧ OwnV wr w.heap.size v (acN xs k) (acV xs k) ∧ Below w.heap.size w wr) (fun _ i _ => xs.length - (intOf i).toNat)
  case atStart => exact ⟨0, Nat.zero_le _, rfl, hown0, b1⟩
  case round =>
    clear hown0 b1
    obtain ⟨k, hk, rfl, hown, hb⟩ := hrel
    have hnl := acN_le xs k
    have hbs := hb.size
    by_cases hlt : k < xs.length
    · have hxr := hx.below hb
      obtain ⟨b, off, rfl, hbl, hc⟩ := hxr.cell k hlt
      cases h1 : opB xs k
      · have HN : Hid (acN xs (k+1) = acN xs k ∧ acV xs (k+1) = acV xs k) := by
          constructor
          · rw [acN, if_neg (by simp [h1])]
          · rw [acV, if_neg (by simp [h1])]
        have H1 := Lib.hid h1
        clear h1
        go_wp2_with fail
        refine (isOpener_any _ xs _ _ k _ hxr hlt rfl).mono ?_
        rw [H1.out]
        rintro e w2 ⟨rfl, rfl⟩
        go_wp2_with fail
        go_roundw
        case rel => exact ⟨k + 1, by omega, by go_num, by rw [HN.out.1, HN.out.2]; exact hown, hb⟩
        case measure => simp [intOf]; omega
      · have HN : Hid (acN xs (k+1) = acN xs k + 1 ∧ acV xs (k+1) = acV xs k ++ [(k : Int), nth xs k]) := by
          constructor
          · rw [acN, if_pos h1]
          · rw [acV, if_pos h1]
        obtain ⟨cs, hcs⟩ : ∃ cs, cs = acV xs k := ⟨_, rfl⟩
        obtain ⟨m, hm⟩ : ∃ m, m = acN xs k := ⟨_, rfl⟩
        rw [← hcs, ← hm] at hown HN
        rw [← hm] at hnl
        have H1 := Lib.hid h1
        clear hcs hm h1
        go_wp2_with fail
        refine (isOpener_any _ xs _ _ k _ hxr hlt rfl).mono ?_
        rw [H1.out]
        rintro e w2 ⟨rfl, rfl⟩
        go_wp2_with (at_builtin; refine push_iv rfl _ _ rfl rfl rfl hown rfl (by omega) hbs ?_; intro v3 w3 o3 hg _; have b3 := hb.trans (below_of_grown hg (fun c e => (hown.lt c e).1) hbs); clear hg hown)
        go_roundw
        case rel => exact ⟨k + 1, by omega, by go_num, by rw [HN.out.1, HN.out.2]; exact o3, b3⟩
        case measure => simp [intOf]; omega
    · obtain rfl : k = xs.length := by omega
      obtain ⟨a', cap', rfl⟩ := hown.form
      go_wp2_with fail
      go_ret
      exact ⟨a', cap', rfl, hown, hb⟩

theorem iIsMatching_any (a : Option Addr) (xs : List Int) (cap : Nat) (w : World) (hx : Rd w a xs) :
    Calls Tryz.prog 92 #[.slice a xs.length cap] w fun e w' => e = .returned (.bool (mcB xs)) ∧ Below w.heap.size w w' := by
  have hlen := hx.len
  by_cases hl : xs.length ≤ 24
  · go_enter Tryz.func92, Tryz.ntmps92
    go_wp2_with fail
    go_loopw [10] (fun i wr => ∃ k : Nat, k ≤ xs.length ∧ i = .int .i64 k ∧ (∀ j, j < k → ptOk xs j = true) ∧ Below w.heap.size w wr) (fun i _ => xs.length - (intOf i).toNat)
    case atStart => exact ⟨0, Nat.zero_le _, rfl, fun j hj => by omega, Below.refl _ _⟩
    case round =>
      obtain ⟨k, hk, rfl, hall, hb⟩ := hrel
      have HA := Lib.hid hall
      clear hall
      by_cases hlt : k < xs.length
      · have hxr := hx.below hb
        obtain ⟨b, off, rfl, hbl, hc⟩ := hxr.cell k hlt
        by_cases h1 : nth xs k < 0
        · have HO : Hid (mcB xs = false) := mcB_no hlt (by have : inB (nth xs k) 0 ((xs.length : Int) - 1) = false := inB_no.2 (.inl h1); simp [ptOk, this])
          go_wp2_with fail
          go_ret
          exact ⟨ret_bool HO.out.symm, hb⟩
        · by_cases h2 : (xs.length : Int) ≤ nth xs k
          · have HO : Hid (mcB xs = false) := mcB_no hlt (by have : inB (nth xs k) 0 ((xs.length : Int) - 1) = false := inB_no.2 (.inr (by omega)); simp [ptOk, this])
            go_wp2_with fail
            go_ret
            exact ⟨ret_bool HO.out.symm, hb⟩
          · have HI : Hid (inB (nth xs k) 0 ((xs.length : Int) - 1) = true) := inB_iff.2 ⟨by omega, by omega⟩
            obtain ⟨j, hj⟩ : ∃ j : Nat, nth xs k = (j : Int) := ⟨(nth xs k).toNat, by omega⟩
            have hjl : j < xs.length := by omega
            obtain ⟨b', off', e', hbl', hc'⟩ := hxr.cell j hjl
            simp only [Option.some.injEq, Addr.mk.injEq, and_true] at e'
            obtain ⟨rfl, rfl⟩ := e'
            rw [hj] at hc
            have HJ := Lib.hid hj
            rw [hj] at HI
            clear h1 h2 hj
            by_cases hjk : j = k
            · subst hjk
              have HO : Hid (mcB xs = false) := mcB_no hlt (by simp [ptOk, HJ.out])
              clear hc'
              go_wp2_with fail
              go_ret
              exact ⟨ret_bool HO.out.symm, hb⟩
            · have q1 : ((j : Int) == (k : Int)) = false := by simp; omega
              by_cases hp : nth xs j = (k : Int)
              · have HO : Hid (ptOk xs k = true) := by
                  have := HI.out
                  simp [Hid, ptOk, this, HJ.out, hp]; omega
                rw [hp] at hc'
                clear hp
                go_wp2_with fail
                go_roundw
                case rel =>
                  refine ⟨k + 1, by omega, by go_num, fun j hj => ?_, hb⟩
                  by_cases e : j = k
                  · rw [e]; exact HO.out
                  · exact HA.out j (by omega)
                case measure => simp [intOf]; omega
              · have HO : Hid (mcB xs = false) := mcB_no hlt (by simp [ptOk, HJ.out, hp])
                have q2 : (nth xs j != (k : Int)) = true := by simp [hp]
                clear hp
                go_wp2_with fail
                go_ret
                exact ⟨ret_bool HO.out.symm, hb⟩
      · obtain rfl : k = xs.length := by omega
        have HO : Hid (mcB xs = true) := mcB_iff.2 ⟨hl, HA.out⟩
        go_wp2_with fail
        go_ret
        exact ⟨ret_bool HO.out.symm, hb⟩
  · have HO := Lib.hid (mcB_long (xs := xs) (by omega))
    go_enter Tryz.func92, Tryz.ntmps92
    go_wp2_with fail
    go_ret
    exact ⟨ret_bool HO.out.symm, Below.refl _ _⟩

theorem iArcs_any (a : Option Addr) (xs : List Int) (cap : Nat) (w : World) (hx : Rd w a xs) :
    Calls Tryz.prog 58 #[.slice a xs.length cap] w (GotV w (arN xs) (arV xs) (arB xs)) := by
  have hlen := hx.len
  unfold GotV
  cases hB : arB xs
  · have HN := Lib.hid (ar_no hB)
    have hor : mcB xs = false ∨ (mcB xs = true ∧ ¬ xs.length ≤ 20) := by
      cases h : mcB xs
      · exact .inl rfl
      · exact .inr ⟨rfl, fun h2 => by rw [arB_iff.2 ⟨h, h2⟩] at hB; cases hB⟩
    have HB := Lib.hid hB
    clear hB
    rcases hor with hA | ⟨hA, h10⟩
    all_goals
      have HA := Lib.hid hA
      clear hA
      go_enter Tryz.func58, Tryz.ntmps58
      go_wp2_with fail
      refine (iIsMatching_any _ _ _ _ hx).mono ?_
      rintro e w1 ⟨rfl, hb⟩
      rw [HA.out]
      go_wp2_with fail
      refine bodyPost_ret (v := .tuple #[.slice none 0 0, .bool false]) (by simp [results, Tryz.results58, go_sem]) rfl ?_
      exact ⟨none, 0, by rw [HN.out.1], by rw [HN.out.1, HN.out.2]; exact OwnV.nil _ _, hb⟩
  · have ⟨hA, h10⟩ := arB_iff.1 hB
    have HN := Lib.hid (ar_yes hB)
    have HB := Lib.hid hB
    have HA := Lib.hid hA
    clear hB hA
    go_enter Tryz.func58, Tryz.ntmps58
    go_wp2_with fail
    refine (iIsMatching_any _ _ _ _ hx).mono ?_
    rintro e w1 ⟨rfl, hb⟩
    rw [HA.out]
    go_wp2_with fail
    refine (allArcs_any _ _ _ _ (hx.below hb) (by omega)).mono ?_
    rintro e w2 ⟨a2, c2, rfl, ho2, hb2⟩
    go_wp2_with fail
    refine bodyPost_ret (v := .tuple #[.slice a2 (acN xs xs.length) c2, .bool true]) (by simp [results, Tryz.results58, go_sem]) rfl ?_
    exact ⟨a2, c2, by rw [HN.out.1], by rw [HN.out.1, HN.out.2]; exact ho2.mono hb.size, hb.trans (hb2.mono hb.size)⟩

theorem iOrdArcs_any (a : Option Addr) (xs : List Int) (cap : Nat) (w : World) (hx : Rd w a xs) :
    Calls Tryz.prog 30 #[.slice a xs.length cap] w (GotO w (aroN xs) (aroL xs) (arB xs)) := by
  have hlen := hx.len
  have hx1 := hx.alloc (.cells #[.int .i64 0, .slice none 0 0] 31)
  have R1 : Var2 (w.alloc (.cells #[.int .i64 0, .slice none 0 0] 31)) w.heap.size (.int .i64 0) (.slice none 0 0) := Var2.new w _ _ _
  have bw1 : Below w.heap.size w (w.alloc (.cells #[.int .i64 0, .slice none 0 0] 31)) := (Below.refl _ _).alloc (Nat.le_refl _) _
  cases hB : arB xs
  · have H1 : Hid (aroN xs = 0) := by simp [Hid, aroN, hB]
    have H2 : Hid (aroL xs = []) := by simp [Hid, aroL, hB]
    have HB := Lib.hid hB
    clear hB
    go_enter Tryz.func30, Tryz.ntmps30
    go_wp2_with fail
    refine (iArcs_any _ _ _ _ hx1).mono ?_
    rintro e w1 ⟨a1, c1, rfl, ho1, hb⟩
    rw [HB.out]
    have R2 := R1.below hb
    have bw2 := bw1.trans (hb.mono bw1.size)
    have ⟨⟨zR, cR, dR⟩, fR, gR⟩ := R2
    go_wp2_with fail
    have R3 := R2.set (.int .i64 0) (.slice none 0 0)
    refine bodyPost_ret (v := .tuple #[.agg #[.int .i64 0, .slice none 0 0], .bool false]) (by have ⟨⟨_, q1, q2⟩, _, _⟩ := R3; simp [results, Tryz.results30, go_sem, q1, q2]) rfl ?_
    exact got_no H1.out H2.out rfl ((bw2.setCell (p := ⟨w.heap.size, 0, none⟩) (Nat.le_refl _) _).setCell (p := ⟨w.heap.size, 1, none⟩) (Nat.le_refl _) _)
  · have ⟨hg, hm10⟩ := ac_good hB
    have H1 : Hid (aroN xs = (acN xs xs.length : Int)) := by simp [Hid, aroN, hB]
    have H2 : Hid (aroL xs = ivo (acV xs xs.length) (acN xs xs.length) (acN xs xs.length)) := by simp [Hid, aroL, hB]
    have H3 : Hid (arN xs = acN xs xs.length) := (ar_yes hB).1
    have H4 : Hid (arV xs = acV xs xs.length) := (ar_yes hB).2
    have HCL := Lib.hid (acV_len xs xs.length)
    have H5 : Hid (ooN (acV xs xs.length) (acN xs xs.length) = (acN xs xs.length : Int)) := by simp [Hid, ooN, hg]
    have H6 : Hid (ooL (acV xs xs.length) (acN xs xs.length) = ivo (acV xs xs.length) (acN xs xs.length) (acN xs xs.length)) := by simp [Hid, ooL, hg]
    have HG := Lib.hid hg
    have HB := Lib.hid hB
    obtain ⟨m, hm⟩ : ∃ m, m = acN xs xs.length := ⟨_, rfl⟩
    rw [← hm] at HCL H1 H2 H3 H5 H6 HG hm10
    clear hB hg hm
    go_enter Tryz.func30, Tryz.ntmps30
    go_wp2_with fail
    refine (iArcs_any _ _ _ _ hx1).mono ?_
    rintro e w1 ⟨a1, c1, rfl, ho1, hb⟩
    rw [HB.out, H3.out]
    rw [H3.out, H4.out] at ho1
    have R2 := R1.below hb
    have bw2 := bw1.trans (hb.mono bw1.size)
    have hr1 := ho1.rd (by omega)
    clear hb ho1
    go_wp2_with fail
    refine (iOrderOfIv_any _ _ _ _ _ hr1 HCL.out (by omega)).mono ?_
    rintro e w3 ⟨a3, c3, rfl, ho3, hb3⟩
    rw [H5.out, H6.out, HG.out, ivo_len]
    rw [H6.out, ivo_len] at ho3
    have R4 := R2.below hb3
    have bw4 := bw2.trans (hb3.mono bw2.size)
    have ⟨⟨zR, cR, dR⟩, fR, gR⟩ := R4
    have hz2 : w.heap.size < w1.heap.size := R2.1.1
    clear hb3
    go_wp2_with fail
    have R5 := R4.set (.int .i64 (m : Int)) (.slice a3 m c3)
    refine bodyPost_ret (v := .tuple #[.agg #[.int .i64 (m : Int), .slice a3 m c3], .bool true]) (by have ⟨⟨_, q1, q2⟩, _, _⟩ := R5; simp [results, Tryz.results30, go_sem, q1, q2]) rfl ?_
    refine ⟨a3, c3, by rw [H1.out, H2.out, ivo_len], ?_, ?_⟩
    · rw [H2.out, ivo_len]
      exact ((ho3.setBelow (p := ⟨w.heap.size, 0, none⟩) hz2 _).setBelow (p := ⟨w.heap.size, 1, none⟩) hz2 _).mono (by omega)
    · exact (bw4.setCell (p := ⟨w.heap.size, 0, none⟩) (Nat.le_refl _) _).setCell (p := ⟨w.heap.size, 1, none⟩) (Nat.le_refl _) _

/-- are two lists of rows the same? -/
def eqR (xss yss : List (List Int)) : Bool := decide (xss.length = yss.length) && (List.range xss.length).all fun k => eqL (rowL xss k) (rowL yss k)
theorem eqR_iff {xss yss : List (List Int)} : eqR xss yss = true ↔ xss.length = yss.length ∧ ∀ k, k < xss.length → eqL (rowL xss k) (rowL yss k) = true := by simp [eqR]

def alkB (n : Int) (xs : List Int) (m : Int) (ys : List Int) : Bool := isIv n xs && isIv m ys
def alkV (n : Int) (xs : List Int) (m : Int) (ys : List Int) : Bool := alkB n xs m ys && eqR (moL n xs) (moL m ys)

theorem sliceEqual_any (a b : Option Addr) (xs ys : List Int) (ca cb : Nat) (w : World) (hx : Rd w a xs) (hy : Rd w b ys) :
    Calls Tryz.prog 56 #[.slice a xs.length ca, .slice b ys.length cb] w fun e w' => e = .returned (.bool (eqL xs ys)) ∧ Below w.heap.size w w' := by
  have hlx := hx.len
  have hly := hy.len
  by_cases hl : xs.length = ys.length
  · have hl' : ((xs.length : Int) != (ys.length : Int)) = false := by simp [hl]
    go_enter Tryz.func56, Tryz.ntmps56
    have HL := Lib.hid hl
    clear hl
    go_wp2_with fail
    go_loopw [13] (fun i wr => ∃ k : Nat, k ≤ xs.length ∧ i = .int .i64 k ∧ xs.take k = ys.take k ∧ Below w.heap.size w wr) (fun i _ => xs.length - (intOf i).toNat)
    case atStart => exact ⟨0, Nat.zero_le _, rfl, rfl, Below.refl _ _⟩
    case round =>
      obtain ⟨k, hk, rfl, htk, hb⟩ := hrel
      have HT := Lib.hid htk
      clear htk
      by_cases hlt : k < xs.length
      · have hlt' : k < ys.length := by rw [← HL.out]; exact hlt
        obtain ⟨b1, o1, rfl, hb1, hc1⟩ := (hx.below hb).cell k hlt
        obtain ⟨b2, o2, rfl, hb2, hc2⟩ := (hy.below hb).cell k hlt'
        by_cases he : nth xs k = nth ys k
        · have he' : (nth xs k != nth ys k) = false := by simp [he]
          have HE := Lib.hid he
          clear he
          go_wp2_with fail
          go_quiet (fail)
          go_wp2_with fail
          go_roundw
          case rel =>
            refine ⟨k + 1, by omega, by go_num, ?_, by exact hb.trans (Joins.below_draws _ _ _)⟩
            rw [List.take_succ_eq_append_getElem hlt, List.take_succ_eq_append_getElem hlt', HT.out, ← nth_get, ← nth_get, HE.out]
          case measure => simp [intOf]; omega
        · have he' : (nth xs k != nth ys k) = true := by simp [he]
          have hne : eqL xs ys = false := by
            simp only [eqL, decide_eq_false_iff_not]
            intro e
            subst e
            exact he rfl
          have HN := Lib.hid hne
          clear he hne
          go_wp2_with fail
          go_quiet (fail)
          go_wp2_with fail
          go_ret
          exact ⟨ret_bool HN.out.symm, hb.trans (Joins.below_draws _ _ _)⟩
      · go_wp2_with fail
        go_ret
        refine ⟨ret_bool ?_, hb⟩
        have h1 := HT.out
        rw [List.take_of_length_le (by omega), List.take_of_length_le (by rw [← HL.out]; omega)] at h1
        simp [eqL, h1]
  · have hl' : ((xs.length : Int) != (ys.length : Int)) = true := by simp; omega
    have hne : eqL xs ys = false := by
      simp only [eqL, decide_eq_false_iff_not]
      intro e
      exact hl (by rw [e])
    have HN := Lib.hid hne
    clear hl hne
    go_enter Tryz.func56, Tryz.ntmps56
    go_wp2_with fail
    go_ret
    exact ⟨ret_bool HN.out.symm, Below.refl _ _⟩

set_option maxRecDepth 100000 in
theorem eqFunc_any (a b : Option Addr) (xss yss : List (List Int)) (ca cb : Nat) (w : World) (hx : RdS w a xss) (hy : RdS w b yss) :
    Calls Tryz.prog 55 #[.slice a xss.length ca, .slice b yss.length cb, .func (.func 56) #[] #[]] w fun e w' => e = .returned (.bool (eqR xss yss)) ∧ Below w.heap.size w w' := by
  have hlx := hx.len
  have hly := hy.len
  by_cases hl : xss.length = yss.length
  · have hl' : ((xss.length : Int) != (yss.length : Int)) = false := by simp [hl]
    have HL := Lib.hid hl
    clear hl
    go_enter Tryz.func55, Tryz.ntmps55
    go_wp2_with fail
    go_loopw [17] (fun i wr => ∃ k : Nat, k ≤ xss.length ∧ i = .int .i64 k ∧ Hid (∀ j, j < k → eqL (rowL xss j) (rowL yss j) = true) ∧ Below w.heap.size w wr) (fun i _ => xss.length - (intOf i).toNat)
    case atStart => exact ⟨0, Nat.zero_le _, rfl, fun j hj => by omega, Below.refl _ _⟩
    case round =>
      obtain ⟨k, hk, rfl, HA, hb⟩ := hrel
      have hbs := hb.size
      by_cases hlt : k < xss.length
      · have hlt' : k < yss.length := by rw [← HL.out]; exact hlt
        obtain ⟨b1, o1, a1, c1, rfl, hb1, hc1, hr1⟩ := (hx.below hb).row k hlt
        obtain ⟨b2, o2, a2, c2, rfl, hb2, hc2, hr2⟩ := (hy.below hb).row k hlt'
        have k1 : (k : Int) < (xss.length : Int) := by omega
        have k2 : (k : Int) < (yss.length : Int) := by omega
        have hrl1 := hr1.len
        have hrl2 := hr2.len
        have HC := Lib.hid (sliceEqual_any a1 a2 (rowL xss k) (rowL yss k) c1 c2 wr hr1 hr2)
        cases he : eqL (rowL xss k) (rowL yss k)
        · have H : Hid (eqR xss yss = false) := by
            rw [Hid, ← Bool.not_eq_true, eqR_iff]
            intro h
            rw [h.2 k hlt] at he
            cases he
          have HE := Lib.hid he
          clear he hr1 hr2
          go_wp2_with fail
          refine HC.out.mono ?_
          rintro e w2 ⟨rfl, hb2'⟩
          rw [HE.out]
          go_wp2_with fail
          go_ret
          exact ⟨ret_bool H.out.symm, hb.trans (hb2'.mono hbs)⟩
        · have HE := Lib.hid he
          clear he hr1 hr2
          go_wp2_with fail
          refine HC.out.mono ?_
          rintro e w2 ⟨rfl, hb2'⟩
          rw [HE.out]
          go_wp2_with fail
          go_roundw
          case rel =>
            refine ⟨k + 1, by omega, by go_num, fun j hj => ?_, hb.trans (hb2'.mono hbs)⟩
            by_cases e : j = k
            · rw [e]; exact HE.out
            · exact HA.out j (by omega)
          case measure => simp [intOf]; omega
      · obtain rfl : k = xss.length := by omega
        have H : Hid (eqR xss yss = true) := eqR_iff.2 ⟨HL.out, HA.out⟩
        go_wp2_with fail
        go_ret
        exact ⟨ret_bool H.out.symm, hb⟩
  · have hl' : ((xss.length : Int) != (yss.length : Int)) = true := by simp; omega
    have H : Hid (eqR xss yss = false) := by
      rw [Hid, ← Bool.not_eq_true, eqR_iff]
      intro h
      exact hl h.1
    clear hl
    go_enter Tryz.func55, Tryz.ntmps55
    go_wp2_with fail
    go_ret
    exact ⟨ret_bool H.out.symm, Below.refl _ _⟩

set_option maxRecDepth 100000 in
set_option maxHeartbeats 1000000 in
theorem iAlike_any (n : Int) (a : Option Addr) (xs : List Int) (cap : Nat) (m : Int) (b : Option Addr) (ys : List Int) (capb : Nat) (w : World) (hn : -9223372036854775808 ≤ n ∧ n ≤ 9223372036854775807) (hx : Rd w a xs) (hm : -9223372036854775808 ≤ m ∧ m ≤ 9223372036854775807) (hy : Rd w b ys) :
    Calls Tryz.prog 25 #[.agg #[.int .i64 n, .slice a xs.length cap], .agg #[.int .i64 m, .slice b ys.length capb]] w fun e w' => e = .returned (.tuple #[.bool (alkV n xs m ys), .bool (alkB n xs m ys)]) ∧ Below w.heap.size w w' := by
  have hb0 : Below w.heap.size w ((w.alloc (.cells #[.int .i64 n, .slice a xs.length cap] 31)).alloc (.cells #[.int .i64 m, .slice b ys.length capb] 31)) := (by repeat (first | exact Below.refl _ _ | assumption | refine Below.alloc ?_ (by first | exact Nat.le_refl _ | (simp only [World.size_alloc, World.size_setCell, World.size_drew]; omega) | omega) _ | refine Below.setCell ?_ (by first | exact Nat.le_refl _ | (simp only [World.size_alloc, World.size_setCell, World.size_drew]; omega) | omega) _ | refine Below.drew ?_))
  have hA := (Box2.new w (.int .i64 n) (.slice a xs.length cap) 31).below ((Below.refl _ _).alloc (Nat.le_refl _) (.cells #[.int .i64 m, .slice b ys.length capb] 31))
  have hB := Box2.new (w.alloc (.cells #[.int .i64 n, .slice a xs.length cap] 31)) (.int .i64 m) (.slice b ys.length capb) 31
  rw [World.size_alloc] at hB
  have HX := Lib.hid hx
  have HY := Lib.hid hy
  have HC1 := Lib.hid (fun W (h : Rd W a xs) => iMxOrd_any n a xs cap W hn h)
  have HC2 := Lib.hid (fun W (h : Rd W b ys) => iMxOrd_any m b ys capb W hm h)
  have H3 : Hid (alkV n xs m ys = (alkB n xs m ys && eqR (moL n xs) (moL m ys))) := rfl
  have H2 : Hid (alkB n xs m ys = (isIv n xs && isIv m ys)) := rfl
  obtain ⟨P, hP⟩ : ∃ P, P = moL n xs := ⟨_, rfl⟩
  obtain ⟨Q, hQ⟩ : ∃ Q, Q = moL m ys := ⟨_, rfl⟩
  rw [← hP] at HC1 H3
  rw [← hQ] at HC2 H3
  clear hx hy hP hQ
  go_enter Tryz.func25, Tryz.ntmps25
  go_wp2_with fail
  refine (HC1.out _ (HX.out.below hb0)).mono ?_
  rintro e w1 ⟨a1, c1, l1, rfl, hro1, hb⟩
  have b1 : Below w.heap.size w w1 := hb0.trans (hb.mono (by simp; omega))
  have hB1 := (hB.below hb).below ((Below.refl _ _).alloc (Nat.le_refl _) (.cells #[.slice a1 P.length c1] 45))
  have hP1 := Box1.new w1 (.slice a1 P.length c1) 45
  have b1' := b1.alloc b1.size (.cells #[.slice a1 P.length c1] 45)
  have hro1' := hro1.below ((Below.refl _ _).alloc (Nat.le_refl _) (.cells #[.slice a1 P.length c1] 45)) (Nat.le_refl _)
  have ⟨zB, cB, dB⟩ := hB1
  have HRO1 := Lib.hid hro1'
  clear hb hA hB hro1 hro1' hb0
  go_wp2_with fail
  refine (HC2.out _ (HY.out.below b1')).mono ?_
  rintro e w2 ⟨a2, c2, l2, rfl, hro2, hb2⟩
  have b2 := b1'.trans (hb2.mono b1'.size)
  have hP2 := (hP1.below hb2).below ((Below.refl _ _).alloc (Nat.le_refl _) (.cells #[.slice a2 Q.length c2] 45))
  have hQ2 := Box1.new w2 (.slice a2 Q.length c2) 45
  have b2' := b2.alloc b2.size (.cells #[.slice a2 Q.length c2] 45)
  have bq : Below w2.heap.size w2 (w2.alloc (.cells #[.slice a2 Q.length c2] 45)) := (Below.refl _ _).alloc (Nat.le_refl _) _
  have HEQ := Lib.hid (eqFunc_any a1 a2 P Q c1 c2 (w2.alloc (.cells #[.slice a2 Q.length c2] 45)) (((HRO1.out.below hb2 (Nat.le_refl _)).below bq (Nat.le_refl _)).o.rd) ((hro2.below bq (Nat.le_refl _)).o.rd))
  have ⟨zP, cP⟩ := hP2
  have ⟨zQ, cQ⟩ := hQ2
  clear hb2 hro2 hB1 cB dB bq
  cases h1 : isIv n xs
  · have H1 := Lib.hid h1
    rw [H1.out] at H2
    clear h1
    go_wp2_with fail
    go_ret2
    exact ⟨ret_bb (by rw [H3.out, H2.out]; rfl) (by rw [H2.out]; rfl), b2'⟩
  · cases h2 : isIv m ys
    · have H1 := Lib.hid h1
      have HI := Lib.hid h2
      rw [H1.out, HI.out] at H2
      clear h1 h2
      go_wp2_with fail
      go_ret2
      exact ⟨ret_bb (by rw [H3.out, H2.out]; rfl) (by rw [H2.out]; rfl), b2'⟩
    · have H1 := Lib.hid h1
      have HI := Lib.hid h2
      rw [H1.out, HI.out] at H2
      clear h1 h2
      go_wp2_with fail
      refine HEQ.out.mono ?_
      rintro e w3 ⟨rfl, hb3⟩
      go_wp2_with fail
      go_ret2
      exact ⟨ret_bb (by rw [H3.out, H2.out]; rfl) (by rw [H2.out]; rfl), b2'.trans (hb3.mono b2'.size)⟩

def amL (xss : List (List Int)) : List Int := if mxB xss then asL xss else []
theorem amL_len (xss : List (List Int)) : (amL xss).length ≤ 1048576 := by
  unfold amL
  split
  · rename_i h
    have := of_mx h
    rw [asL, asF_len, asN]; omega
  · simp

def aooL (n : Int) (xs : List Int) : List Int := if isIv n xs then amL (moL n xs) else []
theorem aooL_len (n : Int) (xs : List Int) : (aooL n xs).length ≤ 1048576 := by
  unfold aooL
  split
  · exact amL_len _
  · simp

set_option maxRecDepth 100000 in
set_option maxHeartbeats 1000000 in
theorem takeOut_any (g c B n x : Nat) (vl : List Value) (f : Nat → Nat → Int) (w : World) (h : RowsP w B (.slice (some ⟨g, 0, none⟩) n c) vl (sqM f n n)) (hx : x < n) (hB : B ≤ w.heap.size) (hn : n ≤ 12) (hnc : n ≤ c) (hc : c ≤ 1048576) :
    Calls Tryz.prog 89 #[.slice (some ⟨g, 0, none⟩) n c, .int .i64 (x : Int)] w fun e w' => ∃ ul, e = .returned (.slice (some ⟨g, 0, none⟩) (n - 1) c) ∧ RowsP w' B (.slice (some ⟨g, 0, none⟩) (n - 1) c) ul (sqM (shF f n x) (n - 1) (n - 1)) ∧ Below B w w' := by
  have hxc : x ≤ c := by omega
  have hxn : x ≤ n := by omega
  have HSW := Lib.hid (fun c2 => swapLast_any g c c2 B n n x x vl f w h hxn hx (by omega) hB (by omega))
  have hgl := h.o.lt g rfl
  obtain ⟨F, hF⟩ : ∃ F, F = swF f n x x := ⟨_, rfl⟩
  have HSH : Hid (∀ m k, sqM (shF f n x) m k = sqM (fun a b => F (skp x a) (skp x b)) m k) := fun m k => by rw [hF]; rfl
  rw [← hF] at HSW
  clear hF h
  go_enter Tryz.func89, Tryz.ntmps89
  go_wp2_with fail
  refine (HSW.out _).mono ?_
  rintro e w1 ⟨rfl, hro1, hb1⟩
  have hsl : ∀ i, i < n → ∃ a m c, valAt vl i = .slice a m c := fun i hi => by
    obtain ⟨a9, c9, e9⟩ := (hro1.o.row i (by rw [sqM_len]; exact hi)).form
    exact ⟨a9, _, c9, e9⟩
  have hown := hro1.o.own
  rw [sqM_len] at hown
  have HDEL := Lib.hid (delRows_any g n c B x vl w1 hown hsl hx hnc hc)
  have HR1 := Lib.hid hro1
  have hs1 := hb1.size
  clear hro1 hsl hown HSW
  go_wp2_with fail
  refine HDEL.out.mono ?_
  rintro e w2 ⟨rfl, ho2, hg2⟩
  have hro2 := HR1.out.del hx ho2 hg2
  have b2 : Below B w w2 := hb1.trans (grown_below hg2 B (by omega) (by omega))
  obtain ⟨G2, hG2⟩ : ∃ G2 : Nat → Nat → Int, G2 = fun a b => F (skp x a) b := ⟨_, rfl⟩
  have HSH2 : Hid (∀ m k, sqM (shF f n x) m k = sqM (fun a b => G2 a (skp x b)) m k) := fun m k => by rw [HSH.out, hG2]
  rw [← hG2, ← tkM_zero (x := x)] at hro2
  have HR2 := Lib.hid hro2
  have hs2 : w.heap.size ≤ w2.heap.size := b2.size
  obtain ⟨ul0, hul0⟩ : ∃ ul0, ul0 = vl.take x ++ vl.drop (x+1) := ⟨_, rfl⟩
  rw [← hul0] at HR2
  obtain ⟨N1, hN1⟩ : ∃ N1, N1 = n - 1 := ⟨_, rfl⟩
  have HN1 := Lib.hid hN1
  have hN1n : N1 ≤ n := by omega
  rw [← hN1] at HR2 ⊢
  clear hro2 ho2 hg2 hG2 hul0 HDEL HR1 hN1
  go_wp2_with fail
  go_loopw [20] (fun i wr => ∃ (k : Nat) (ul : List Value), k ≤ N1 ∧ i = .int .i64 k ∧ RowsP wr B (.slice (some ⟨g, 0, none⟩) N1 c) ul (tkM G2 n x k) ∧ Below B w wr) (fun i _ => N1 - (intOf i).toNat)
  case atStart => exact ⟨0, _, Nat.zero_le _, rfl, HR2.out, b2⟩
  case round =>
    clear b2
    obtain ⟨k, ul, hk, rfl, hro, hb⟩ := hrel
    have hbs := hb.size
    by_cases hlt : k < N1
    · have k1 : (k : Int) < (N1 : Int) := by omega
      have hkl : k < n - 1 := by rw [← HN1.out]; exact hlt
      have hk9 : k < (tkM G2 n x k).length := by rw [tkM_len]; exact hkl
      obtain ⟨g4, e4, hg4, hg5, hc4, hf4⟩ := hro.outer hk9
      simp only [Option.some.injEq, Addr.mk.injEq, and_true] at e4
      subst e4
      have hrow := hro.o.row k hk9
      obtain ⟨ar, cr, er⟩ := hrow.form
      have hrl : (rowL (tkM G2 n x k) k).length = n := by rw [tkM_row hkl, if_neg (Nat.lt_irrefl k), fmap_len]
      have HRO := Lib.hid hro
      have HER := Lib.hid er
      have HTS := Lib.hid (tkM_step (f := G2) hkl hx)
      rw [er] at hc4 hrow
      have HDL := Lib.hid (delOwn ar cr x (rowL (tkM G2 n x k) k) B wr hrow (by rw [hrl]; exact hx))
      rw [hrl] at hc4 HDL HER
      have HNN : Hid (n - 1 = N1) := HN1.out.symm
      rw [HNN.out] at HDL
      clear hro hrow er hrl hk9 hkl
      go_wp2_with fail
      refine HDL.out.mono ?_
      rintro e w3 ⟨rfl, ho3, hg3⟩
      obtain ⟨g9, c9, e9, hg9, hg10, ⟨z9, hz9⟩, hf9, hnew⟩ := HRO.out.swapRow (k := k) (by rw [tkM_len, HNN.out]; exact hlt) (by rw [HER.out]; exact hg3) ho3 (by rw [HER.out]; cases ar <;> rfl)
      simp only [Value.slice.injEq, Option.some.injEq, Addr.mk.injEq, and_true] at e9
      obtain ⟨rfl, -, -⟩ := e9
      rw [HTS.out] at hnew
      have HNEW := Lib.hid hnew
      have hU := (HRO.out.o.row k (by rw [tkM_len, HNN.out]; exact hlt)).lt
      rw [HER.out] at hU
      have b3 := hb.trans (below_of_grown hg3 (fun c e => (hU c e).1) (by omega))
      have b4 := b3.setCell (p := ⟨g, k, none⟩) hg4 (.slice ar N1 cr)
      clear ho3 hg3 hnew hU
      go_wp2_with fail
      go_roundw
      case rel => exact ⟨k + 1, _, by omega, by go_num, HNEW.out, b4⟩
      case measure => simp [intOf]; omega
    · obtain rfl : k = N1 := by omega
      have HR := Lib.hid hro
      clear hro
      go_wp2_with fail
      go_ret
      have hf := HR.out
      rw [show tkM G2 n x k = sqM (fun a b => G2 a (skp x b)) k k by have h := tkM_end (f := G2) (n := n) (x := x); rw [← HN1.out] at h; exact h, ← HSH2.out] at hf
      rw [← HN1.out]
      exact ⟨ul, rfl, hf, hb⟩

end Go.Proofs.YtiodfmiielnngaaGreat.top
