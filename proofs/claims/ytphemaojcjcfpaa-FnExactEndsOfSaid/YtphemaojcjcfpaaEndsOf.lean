/- PROVED: the law FnExactEndsOf returns true for every input, and each of its arguments reads afterwards as before. No conditions. -/
import Derived.Test.YtphemaojcjcfpaaRows
import Derived.WalkKit
import Derived.WalkSpells
import Derived.WalkLawsBesides
import Derived.Deep.QuietTactic
import Derived.BigQuiet
import Derived.ProofKit
import Derived.OpenShut
import Derived.ShutString
import Derived.ChangeOld
import Derived.Below
import Derived.Lib.SmallJoins
import Derived.Lib.Hide
import Derived.Shelf.Small.Bits
import Derived.Shelf.Small.Wraps
import Derived.Shelf.Strconv.Itoa0
import Derived.Shelf.Sort.Plain
import Derived.Shelf.Slices.CompactI
import Derived.Shelf.Slices.SearchI
import Derived.Shelf.Slices.Cells
import Derived.Shelf.Slices.In.SortNone
import Derived.Sort.OwnSortedInts
import Derived.Lib.SlicesCompact
import Derived.Lib.RowBridge
import Derived.Deep.RegionHeld3
import Derived.Test.YtphemaojcjcfpaaEndsOfP1
namespace Go.Proofs.Ytphemaojcjcfpaa.endsOf
open Go Go.RowKit
set_option linter.unusedVariables false
set_option linter.unusedSimpArgs false
set_option maxHeartbeats 400000
open Go.Shelf
/-- the row while the right end of k is being found -/
def endRow (xs : List Int) (k j : Nat) : List Int := ((rowP (lv xs) (rtE xs) xs.length k).set (k * 2) (lv xs k)).set (k * 2 + 1) (rtTo 0 xs k j)
theorem endRow_len (xs : List Int) {k : Nat} (j : Nat) (h : k ≤ xs.length) : (endRow xs k j).length = xs.length * 2 := by
  rw [endRow, List.length_set, List.length_set, rowP_len _ _ h]
theorem endRow_zero (xs : List Int) {k : Nat} (h : k < xs.length) : (rowP (lv xs) (rtE xs) xs.length k).set (k * 2) (lv xs k) = endRow xs k 0 := by
  have hl := rowP_len (lv xs) (rtE xs) (Nat.le_of_lt h)
  apply nth_ext' (by rw [endRow_len xs 0 (by omega), List.length_set, hl])
  intro i hi
  rw [List.length_set, hl] at hi
  rw [endRow, nth_set' (xs := (rowP (lv xs) (rtE xs) xs.length k).set (k * 2) (lv xs k)) (by rw [List.length_set, hl]; omega)]
  by_cases e : k * 2 + 1 = i
  · subst e
    rw [if_pos rfl, nth_set' (by rw [hl]; omega), if_neg (by omega), rowP_nth _ _ (by omega) hi, if_neg (by omega)]
    rfl
  · rw [if_neg e]
theorem endRow_end (xs : List Int) {k : Nat} (h : k < xs.length) : endRow xs k xs.length = rowP (lv xs) (rtE xs) xs.length (k + 1) := rowP_next _ _ h
theorem endRow_set (xs : List Int) (k j : Nat) (y : Int) : (endRow xs k j).set (k * 2 + 1) y = ((rowP (lv xs) (rtE xs) xs.length k).set (k * 2) (lv xs k)).set (k * 2 + 1) y := by
  rw [endRow, List.set_set]
theorem endRow_nth (xs : List Int) {k : Nat} (j : Nat) (h : k < xs.length) : nth (endRow xs k j) (k * 2 + 1) = rtTo 0 xs k j := by
  rw [endRow, nth_set' (by rw [List.length_set, rowP_len _ _ (by omega)]; omega), if_pos rfl]
theorem endRow_yes {xs : List Int} {k j : Nat} (h : hasB (nth xs k) j = true) : endRow xs k (j+1) = endRow xs k j := by
  rw [endRow, endRow, rtTo, if_pos h]
theorem iEnds_any (n : Int) (a : Option Addr) (xs : List Int) (cap : Nat) (w : World) (hn : -9223372036854775808 ≤ n ∧ n ≤ 9223372036854775807) (hx : Rd w a xs) :
    Calls Try.prog 44 #[.agg #[.int .i64 n, .slice a xs.length cap]] w (GotV w (endN n xs) (endL n xs) (isIv n xs)) := by
  have hx1 := hx.alloc (.cells #[.int .i64 n, .slice a xs.length cap] 26)
  obtain ⟨i0, hi, hz0, hz1, hz2⟩ := info_parts infoIv
  cases hr : isIv n xs
  · have H1 : Hid (endN n xs = 0) := by simp [Hid, endN, hr]
    have H2 : Hid (endL n xs = []) := by simp [Hid, endL, hr]
    have H3 : Hid (levL n xs = []) := by simp [Hid, levL, hr]
    have HR := Lib.hid hr
    clear hr
    go_enter Try.func44, Try.ntmps44
    go_wp2_with fail
    refine (iLevels_any _ _ _ _ _ hn hx1).mono ?_
    rw [HR.out, H3.out]
    rintro e w1 ⟨a1, cap1, rfl, ho1, hb1⟩
    have bw1 : Below w.heap.size w w1 := Below.trans (by repeat (first | exact Below.refl _ _ | assumption | refine Below.alloc ?_ (by first | exact Nat.le_refl _ | (simp only [World.size_alloc, World.size_setCell, World.size_drew]; omega) | omega) _ | refine Below.setCell ?_ (by first | exact Nat.le_refl _ | (simp only [World.size_alloc, World.size_setCell, World.size_drew]; omega) | omega) _ | refine Below.drew ?_)) (hb1.mono (by first | (simp only [World.size_alloc, World.size_setCell, World.size_drew]; omega) | omega))
    clear ho1
    go_wp2_with fail
    refine bodyPost_ret (v := .tuple #[.slice none 0 0, .bool false]) (by simp [results, Try.results44, go_sem]) rfl ?_
    exact ⟨none, 0, by rw [H1.out], by rw [H1.out, H2.out]; exact OwnV.nil _ _, bw1⟩
  · have ho := isIv_ord hr
    have hp := ord_rel ho
    have H1 : Hid (endN n xs = xs.length) := by simp [Hid, endN, hr]
    have H2 : Hid (endL n xs = endp xs xs.length) := by simp [Hid, endL, hr]
    have H3 : Hid (levL n xs = levs xs xs.length) := by simp [Hid, levL, hr]
    have HR := Lib.hid hr
    obtain rfl : n = (xs.length : Int) := hp.len.symm
    have hl10 : xs.length ≤ 10 := by have := hp.n1; omega
    clear hr ho
    go_enter Try.func44, Try.ntmps44
    go_wp2_with fail
    refine (iLevels_any _ _ _ _ _ hn hx1).mono ?_
    rw [HR.out, H3.out, levs_len]
    rintro e w1 ⟨a1, cap1, rfl, ho1, hb1⟩
    have A1 : Box2 w1 w.heap.size (.int .i64 (xs.length : Int)) (.slice a xs.length cap) := (Box2.new w _ _ _).below hb1
    have bw1 : Below w.heap.size w w1 := Below.trans (by repeat (first | exact Below.refl _ _ | assumption | refine Below.alloc ?_ (by first | exact Nat.le_refl _ | (simp only [World.size_alloc, World.size_setCell, World.size_drew]; omega) | omega) _ | refine Below.setCell ?_ (by first | exact Nat.le_refl _ | (simp only [World.size_alloc, World.size_setCell, World.size_drew]; omega) | omega) _ | refine Below.drew ?_)) (hb1.mono (by first | (simp only [World.size_alloc, World.size_setCell, World.size_drew]; omega) | omega))
    have ⟨zA, cA, dA⟩ := A1
    have hrl : Rd w1 a1 (levs xs xs.length) := ho1.rd
    clear hb1 ho1
    go_wp2_with (at_make; refine wpList_make_full _ rfl (.tmp 19) (.tmp 19) 41 rfl w1.heap.size 61 i0 (.agg #[.int .i64 0, .int .i64 0]) 2 Try.underlying41 hi hz0 hz1 .i64 .i64 _ _ xs.length rfl rfl rfl rfl (by rw [hz2]; omega) (by unfold maxLen; omega) (Nat.le_refl _) ?_; intro w2 hown hgrow; have A2 := A1.kept hgrow (by simp))
    have hb2 : Below w1.heap.size w1 w2 := (Below.refl _ _).grown hgrow (Nat.le_refl _) (fun k h => by cases h)
    have hown0 := made_rowP (lv xs) (rtE xs) hown
    clear hown hgrow cA dA
    go_wp2_with fail
    go_loopw [23] (fun i wr => ∃ k : Nat, k ≤ xs.length ∧ i = .int .i64 k ∧ OwnV wr w1.heap.size (.slice (some ⟨w1.heap.size, 0, none⟩) xs.length xs.length) xs.length (rowP (lv xs) (rtE xs) xs.length k) ∧ Below w1.heap.size w1 wr ∧ Box2 wr w.heap.size (.int .i64 (xs.length : Int)) (.slice a xs.length cap)) (fun i _ => xs.length - (intOf i).toNat)
    case atStart => exact ⟨0, Nat.zero_le _, rfl, hown0, hb2, A2⟩
    case round =>
      obtain ⟨k, hk, rfl, hown, hb, hA⟩ := hrel
      by_cases hlt : k < xs.length
      · obtain ⟨b, off, rfl, hbl, hck⟩ := (hrl.below hb).cell k (by rw [levs_len]; exact hlt)
        rw [levs_nth xs hlt] at hck
        have k0 : (0 : Int) ≤ (k : Int) := by omega
        have k1 : (k : Int) < (xs.length : Int) := by omega
        have hpl := rowP_len (lv xs) (rtE xs) hk
        have ⟨c1, f1⟩ := hown.at' (i := k * 2) (by omega)
        have p1 := hown.put (k * 2) (lv xs k)
        rw [endRow_zero xs hlt] at p1
        have P1 := Lib.hid p1.1
        have A3 := hA.kept p1.2 (by simp; omega)
        have b3 := hb.setCell (p := ⟨w1.heap.size, k * 2, none⟩) (Nat.le_refl _) (.int .i64 (lv xs k))
        clear hown p1 hpl
        go_wp2_with fail
        go_loopw [35] (fun i' wi => ∃ j : Nat, j ≤ xs.length ∧ i' = .int .i64 j ∧ OwnV wi w1.heap.size (.slice (some ⟨w1.heap.size, 0, none⟩) xs.length xs.length) xs.length (endRow xs k j) ∧ Below w1.heap.size w1 wi ∧ Box2 wi w.heap.size (.int .i64 (xs.length : Int)) (.slice a xs.length cap)) (fun i _ => xs.length - (intOf i).toNat)
        case atStart => exact ⟨0, Nat.zero_le _, rfl, P1.out, b3, A3⟩
        case round =>
          obtain ⟨j, hj, rfl, hown, hb, hA⟩ := hrel
          have ⟨zB, cB, dB⟩ := hA
          by_cases hjl : j < xs.length
          · obtain ⟨b2, off2, e2, hbl2, hcj⟩ := (hrl.below hb).cell j (by rw [levs_len]; exact hjl)
            simp only [Option.some.injEq, Addr.mk.injEq, and_true] at e2
            obtain ⟨rfl, rfl⟩ := e2
            rw [levs_nth xs hjl] at hcj
            obtain ⟨b3, off3, rfl, hbl3, hc3⟩ := (hx.below (bw1.trans (hb.mono bw1.size))).cell k hlt
            have s0 := hp.pos k hlt
            have s2 : nth xs k ≤ 9223372036854775807 := by have := hp.small k hlt; omega
            have j0 : (0 : Int) ≤ (j : Int) := by omega
            have j1 : (j : Int) < (xs.length : Int) := by omega
            cases hhas : hasB (nth xs k) j
            · have hel := endRow_len xs (k := k) j hk
              have ⟨c2, f2⟩ := hown.at' (i := k * 2 + 1) (by omega)
              rw [endRow_nth xs j hlt] at c2
              have ⟨r0, r1⟩ := rtTo_bd (st := 0) (xs := xs) (i := k) (k := j) (by omega) (by omega)
              have ⟨l0, l1⟩ := lv_bd xs j
              have p2 := hown.put (k * 2 + 1) (rtTo 0 xs k (j + 1))
              rw [endRow_set] at p2
              have P2 := Lib.hid p2.1
              have A4 := hA.kept p2.2 (by simp; omega)
              have b4 := hb.setCell (p := ⟨w1.heap.size, k * 2 + 1, none⟩) (Nat.le_refl _) (.int .i64 (rtTo 0 xs k (j + 1)))
              have hmx : max (rtTo 0 xs k j) (lv xs j) = rtTo 0 xs k (j + 1) := by rw [rtTo_no hhas, maxI]; split <;> omega
              have HM := Lib.hid hmx
              clear p2 hel hown hmx
              go_wp2_with (go_at_call 65; refine (hasElement_any _ _ _ (by assumption) (by assumption) (by assumption)).mono ?_; rintro e w' ⟨rfl, rfl⟩)
              go_roundw
              case rel => rw [HM.out]; exact ⟨j + 1, by omega, by go_num, P2.out, b4, A4⟩
              case measure => simp [intOf]; omega
            · have HE := Lib.hid (endRow_yes hhas)
              go_wp2_with (go_at_call 65; refine (hasElement_any _ _ _ (by assumption) (by assumption) (by assumption)).mono ?_; rintro e w' ⟨rfl, rfl⟩)
              go_roundw
              case rel => exact ⟨j + 1, by omega, by go_num, by rw [HE.out]; exact hown, hb, hA⟩
              case measure => simp [intOf]; omega
          · obtain rfl : j = xs.length := by omega
            rw [endRow_end xs hlt] at hown
            go_wp2_with fail
            go_roundw
            case rel => exact ⟨k + 1, by omega, by go_num, hown, hb, hA⟩
            case measure => simp [intOf]; omega
      · obtain rfl : k = xs.length := by omega
        rw [rowP_end] at hown
        go_wp2_with fail
        refine bodyPost_ret (v := .tuple #[.slice (some ⟨w1.heap.size, 0, none⟩) xs.length xs.length, .bool true]) (by simp [results, Try.results44, go_sem]) rfl ?_
        exact ⟨some ⟨w1.heap.size, 0, none⟩, xs.length, by rw [H1.out], by rw [H1.out, H2.out]; exact hown.mono bw1.size, bw1.trans (hb.mono bw1.size)⟩

/-- the marks k, k + 1, .. -/
def marks (k : Int) (n : Nat) : List Int := (List.range n).map (fun (j : Nat) => k + (j : Int))
theorem marks_len (k : Int) (n : Nat) : (marks k n).length = n := by simp [marks]
theorem marks_nth {k : Int} {n j : Nat} (h : j < n) : nth (marks k n) j = k + j := by
  simp [nth, marks, h]
theorem mark_step (k : Int) (xs : List Int) (j : Nat) (h : j < xs.length) :
    ((marks k j ++ xs.drop j).map (Value.int .i64)).set j (.int .i64 (k + j)) = (marks k (j+1) ++ xs.drop (j+1)).map (Value.int .i64) := by
  apply List.ext_getElem?
  intro i
  rw [List.getElem?_set]
  by_cases hj : j = i
  · subst hj
    rw [if_pos rfl, if_pos (by simp [marks_len]; omega), List.getElem?_map, List.getElem?_append_left (by rw [marks_len]; omega)]
    simp [marks]
  · simp only [hj, if_false, List.getElem?_map, List.getElem?_append, marks_len, List.getElem?_drop]
    by_cases h1 : i < j
    · have h2 : i < j + 1 := by omega
      simp [h1, h2, marks]
    · have h2 : ¬ i < j + 1 := by omega
      have h3 : j + (i - j) = j + 1 + (i - (j + 1)) := by omega
      simp [h1, h2, h3]
theorem own_ne {v u : Value} (h : ∀ c, v.ownBlock = some c → u.ownBlock ≠ some c) : v.ownBlock = none ∨ v.ownBlock ≠ u.ownBlock := by
  cases hv : v.ownBlock with
  | none => exact .inl rfl
  | some c => exact .inr (fun e => h c hv e.symm)

theorem markIntS_any (a : Option Addr) (xs : List Int) (cap : Nat) (k : Int) (B : Nat) (w : World) (h0 : 0 ≤ k) (h1 : k ≤ 1099511627776) (hn : xs.length ≤ 1048576) (ho : OwnI w B (.slice a xs.length cap) xs) :
    Calls Try.prog 25 #[.slice a xs.length cap, .int .i64 k] w fun e w' => e = .returned (.int .i64 (k + xs.length)) ∧ OwnI w' B (.slice a xs.length cap) (marks k xs.length) ∧ w.grownBy w' (Value.slice a xs.length cap).ownBlock := by
  go_enter Try.func25, Try.ntmps25
  go_wp2_with fail
  go_loopw [1, 5] (fun k' i wr => ∃ j : Nat, j ≤ xs.length ∧ i = .int .i64 j ∧ k' = .int .i64 (k + j) ∧ wr.ownsRow B 3 1 (.slice a xs.length cap) xs.length ((marks k j ++ xs.drop j).map (Value.int .i64)) ∧ w.grownBy wr (Value.slice a xs.length cap).ownBlock) (fun _ i _ => xs.length - (intOf i).toNat)
  case atStart => exact ⟨0, Nat.zero_le _, rfl, by simp, by (have e : marks k 0 ++ xs.drop 0 = xs := by simp [marks]); rw [e]; exact ho, World.grownBy.refl _ _⟩
  case round =>
    obtain ⟨j, hj, rfl, rfl, hown, hg⟩ := hrel
    by_cases hlt : j < xs.length
    · obtain ⟨g, rfl⟩ : ∃ g, a = some ⟨g, 0, none⟩ := by
        rcases hown.2 with ⟨e, h⟩ | ⟨g, c, cur, e, _⟩
        · omega
        · simp only [Value.slice.injEq] at e
          exact ⟨g, e.1⟩
      have hst := World.ownsRow.stored hown j (.int .i64 (k + j))
      rw [mark_step k xs j hlt] at hst
      have hcc := World.ownsRow.cellAt hown j (by omega)
      have hfr := World.ownsRow.frozenAt hown j
      have hcc' : ∃ u, wr.cell? ⟨g, j, none⟩ = some u := by
        rw [hcc]
        exact ⟨_, List.getElem?_eq_getElem (by simp [marks_len]; omega)⟩
      obtain ⟨u, hu⟩ := hcc'
      have Hst := Lib.hid hst
      have Hg := Lib.hid (grown_trans hg hst.2)
      clear hst hcc hown hg
      go_wp2
      go_roundw
      case rel => exact ⟨j + 1, by omega, by go_num, by go_num, Hst.out.1, Hg.out⟩
      case measure => simp [intOf]; omega
    · obtain rfl : j = xs.length := by omega
      go_wp2
      go_ret
      refine ⟨rfl, ?_, hg⟩
      have e : marks k xs.length ++ xs.drop xs.length = marks k xs.length := by simp
      rw [e] at hown
      show World.ownsRow _ _ _ _ _ _ _
      rw [marks_len]
      exact hown

theorem markOrder_any (n : Int) (a : Option Addr) (xs : List Int) (cap : Nat) (k : Int) (B : Nat) (w : World) (h0 : 0 ≤ k) (h1 : k ≤ 1099511627776) (hn : xs.length ≤ 1048576) (ho : OwnI w B (.slice a xs.length cap) xs) :
    Calls Try.prog 18 #[.agg #[.int .i64 n, .slice a xs.length cap], .int .i64 k] w fun e w' => e = .returned (.int .i64 (k + xs.length)) ∧ OwnI w' B (.slice a xs.length cap) (marks k xs.length) ∧ w.grownBy w' (Value.slice a xs.length cap).ownBlock := by
  go_enter Try.func18, Try.ntmps18
  go_wp2_with fail
  refine (markIntS_any _ _ _ _ B _ h0 h1 hn (ho.alloc _)).mono ?_
  rintro e w1 ⟨rfl, ho1, hg1⟩
  go_wp2_with fail
  go_ret
  exact ⟨rfl, ho1, grown_alloc_set hg1⟩

/-- the flat row of which the first m cells bear marks -/
def mkV (k : Int) (cs : List Int) (m : Nat) : List Int := marks k m ++ cs.drop m
theorem mkV_len {k : Int} {cs : List Int} {m : Nat} (h : m ≤ cs.length) : (mkV k cs m).length = cs.length := by
  simp [mkV, marks_len]; omega
theorem mkV_set {k : Int} {cs : List Int} {m : Nat} (h : m < cs.length) : (mkV k cs m).set m (k + m) = mkV k cs (m+1) := by
  apply List.ext_getElem?
  intro i
  rw [List.getElem?_set]
  by_cases hj : m = i
  · subst hj
    rw [if_pos rfl, if_pos (by rw [mkV_len (by omega)]; exact h), mkV, List.getElem?_append_left (by rw [marks_len]; omega)]
    simp [marks]
  · simp only [hj, if_false, mkV, List.getElem?_append, marks_len, List.getElem?_drop]
    by_cases h1 : i < m
    · have h2 : i < m + 1 := by omega
      simp [h1, h2, marks]
    · have h2 : ¬ i < m + 1 := by omega
      have h3 : m + (i - m) = m + 1 + (i - (m + 1)) := by omega
      simp [h1, h2, h3]
theorem markIntervalS_any (a : Option Addr) (cs : List Int) (n cap : Nat) (k : Int) (B : Nat) (w : World) (h0 : 0 ≤ k) (h1 : k ≤ 1099511627776) (hn : n ≤ 1048576) (ho : OwnV w B (.slice a n cap) n cs) :
    Calls Try.prog 34 #[.slice a n cap, .int .i64 k] w fun e w' => e = .returned (.int .i64 (k + (n * 2 : Nat))) ∧ OwnV w' B (.slice a n cap) n (marks k (n * 2)) ∧ w.grownBy w' (Value.slice a n cap).ownBlock := by
  have HL := Lib.hid ho.len
  go_enter Try.func34, Try.ntmps34
  go_wp2_with fail
  go_loopw [1, 5] (fun k' i wr => ∃ j : Nat, j ≤ n ∧ i = .int .i64 j ∧ k' = .int .i64 (k + (j * 2 : Nat)) ∧ OwnV wr B (.slice a n cap) n (mkV k cs (j * 2)) ∧ w.grownBy wr (Value.slice a n cap).ownBlock) (fun _ i _ => n - (intOf i).toNat)
  case atStart => exact ⟨0, Nat.zero_le _, rfl, by simp, by (have e : mkV k cs (0 * 2) = cs := by simp [mkV, marks]); rw [e]; exact ho, World.grownBy.refl _ _⟩
  case round =>
    obtain ⟨j, hj, rfl, rfl, hown, hg⟩ := hrel
    by_cases hlt : j < n
    · obtain ⟨g, rfl, hBg, hgs⟩ := hown.head (by omega)
      have hml := mkV_len (k := k) (cs := cs) (m := j * 2) (by rw [HL.out]; omega)
      have hcl := HL.out
      have ⟨c1, f1⟩ := hown.at' (i := j * 2) (by omega)
      have ⟨c2, f2⟩ := hown.at' (i := j * 2 + 1) (by omega)
      have p1 := hown.put (j * 2) (k + (j * 2 : Nat))
      rw [mkV_set (by omega)] at p1
      have p2 := p1.1.put (j * 2 + 1) (k + (j * 2 + 1 : Nat))
      rw [mkV_set (by omega)] at p2
      have P2 := Lib.hid p2.1
      have G2 := Lib.hid (grown_trans (grown_trans hg p1.2) p2.2)
      have e2 : k + ((j * 2 : Nat) : Int) + 1 = k + ((j * 2 + 1 : Nat) : Int) := by omega
      have E2 := Lib.hid e2
      clear hown hg p1 p2 hml hcl e2
      go_wp2
      go_roundw
      case rel =>
        refine ⟨j + 1, by omega, by go_num, val_int (by omega), ?_, ?_⟩
        · have := P2.out; rw [← E2.out] at this; rw [show (j + 1) * 2 = j * 2 + 1 + 1 from by omega]; exact this
        · have := G2.out; rw [← E2.out] at this; exact this
      case measure => simp [intOf]; omega
    · obtain rfl : j = n := by omega
      have e : mkV k cs (j * 2) = marks k (j * 2) := by rw [mkV, List.drop_of_length_le (by rw [HL.out]; omega), List.append_nil]
      rw [e] at hown
      go_wp2
      go_ret
      exact ⟨rfl, hown, hg⟩

def eqV (x y x' y' : Int) : Bool := decide (x = x') && decide (y = y')
theorem eqInterval_any (x y x' y' : Int) (w : World) :
    Calls Try.prog 62 #[.agg #[.int .i64 x, .int .i64 y], .agg #[.int .i64 x', .int .i64 y']] w fun e w' => e = .returned (.bool (eqV x y x' y')) ∧ Below w.heap.size w w' := by
  by_cases hx : x = x'
  · by_cases hy : y = y'
    · have H : Hid (eqV x y x' y' = true) := by simp [Hid, eqV, hx, hy]
      have h1 : (x != x') = false := by simp [hx]
      have h2 : (y != y') = false := by simp [hy]
      clear hx hy
      go_enter Try.func62, Try.ntmps62
      go_wp2
      go_ret
      exact ⟨ret_bool H.out.symm, (by repeat (first | exact Below.refl _ _ | assumption | refine Below.alloc ?_ (by first | exact Nat.le_refl _ | (simp only [World.size_alloc, World.size_setCell, World.size_drew]; omega) | omega) _ | refine Below.setCell ?_ (by first | exact Nat.le_refl _ | (simp only [World.size_alloc, World.size_setCell, World.size_drew]; omega) | omega) _ | refine Below.drew ?_))⟩
    · have H : Hid (eqV x y x' y' = false) := by simp [Hid, eqV, hy]
      have h1 : (x != x') = false := by simp [hx]
      have h2 : (y != y') = true := by simp [hy]
      clear hx hy
      go_enter Try.func62, Try.ntmps62
      go_wp2
      go_ret
      exact ⟨ret_bool H.out.symm, (by repeat (first | exact Below.refl _ _ | assumption | refine Below.alloc ?_ (by first | exact Nat.le_refl _ | (simp only [World.size_alloc, World.size_setCell, World.size_drew]; omega) | omega) _ | refine Below.setCell ?_ (by first | exact Nat.le_refl _ | (simp only [World.size_alloc, World.size_setCell, World.size_drew]; omega) | omega) _ | refine Below.drew ?_))⟩
  · have H : Hid (eqV x y x' y' = false) := by simp [Hid, eqV, hx]
    have h1 : (x != x') = true := by simp [hx]
    clear hx
    go_enter Try.func62, Try.ntmps62
    go_wp2
    go_ret
    exact ⟨ret_bool H.out.symm, (by repeat (first | exact Below.refl _ _ | assumption | refine Below.alloc ?_ (by first | exact Nat.le_refl _ | (simp only [World.size_alloc, World.size_setCell, World.size_drew]; omega) | omega) _ | refine Below.setCell ?_ (by first | exact Nat.le_refl _ | (simp only [World.size_alloc, World.size_setCell, World.size_drew]; omega) | omega) _ | refine Below.drew ?_))⟩

theorem eqV_at {cs ds : List Int} {k : Nat} (h : cs.take (k * 2) = ds.take (k * 2)) (h1 : k * 2 + 1 < cs.length) (h2 : k * 2 + 1 < ds.length) (he : eqV (lft cs k) (rgt cs k) (lft ds k) (rgt ds k) = true) : cs.take ((k+1) * 2) = ds.take ((k+1) * 2) := by
  simp only [eqV, Bool.and_eq_true, decide_eq_true_eq] at he
  have he1 : nth cs (k * 2) = nth ds (k * 2) := he.1
  have he2 : nth cs (k * 2 + 1) = nth ds (k * 2 + 1) := he.2
  rw [show (k+1) * 2 = k * 2 + 1 + 1 from by omega, List.take_succ_eq_append_getElem h1, List.take_succ_eq_append_getElem h2, List.take_succ_eq_append_getElem (by omega), List.take_succ_eq_append_getElem (by omega), h, ← nth_get, ← nth_get, ← nth_get, ← nth_get, he1, he2]
theorem eqV_no {cs ds : List Int} {k : Nat} (he : eqV (lft cs k) (rgt cs k) (lft ds k) (rgt ds k) = false) : eqL cs ds = false := by
  rw [eqL, decide_eq_false_iff_not]
  rintro rfl
  simp [eqV] at he
theorem eqIntervalS_any (a b : Option Addr) (cs ds : List Int) (n m ca cb : Nat) (w : World) (hx : Rd w a cs) (hy : Rd w b ds) (hn : cs.length = n * 2) (hm : ds.length = m * 2) (hn0 : n ≤ 1048576) (hm0 : m ≤ 1048576) :
    Calls Try.prog 33 #[.slice a n ca, .slice b m cb] w fun e w' => e = .returned (.bool (eqL cs ds)) ∧ Below w.heap.size w w' := by
  by_cases hl : n = m
  · have hl' : ((n : Int) != (m : Int)) = false := by simp [hl]
    subst hl
    have HN := Lib.hid hn
    have HM := Lib.hid hm
    clear hn hm
    go_enter Try.func33, Try.ntmps33
    go_wp2_with fail
    go_loopw [5] (fun i wr => ∃ k : Nat, k ≤ n ∧ i = .int .i64 k ∧ cs.take (k * 2) = ds.take (k * 2) ∧ Below w.heap.size w wr) (fun i _ => n - (intOf i).toNat)
    case atStart => exact ⟨0, Nat.zero_le _, rfl, rfl, Below.refl _ _⟩
    case round =>
      obtain ⟨k, hk, rfl, htk, hb⟩ := hrel
      have HT := Lib.hid htk
      clear htk
      by_cases hlt : k < n
      · obtain ⟨b1, o1, rfl, hb1, hc1, hc1'⟩ := (hx.below hb).pair HN.out hlt
        obtain ⟨b2, o2, rfl, hb2, hc2, hc2'⟩ := (hy.below hb).pair HM.out hlt
        cases he : eqV (lft cs k) (rgt cs k) (lft ds k) (rgt ds k)
        · have HF := Lib.hid (eqV_no he)
          go_wp2_with fail
          go_region_held3 (fun w' => w'.cell? ⟨b1, o1 + k * 2, none⟩ = some (.int .i64 (lft cs k)) ∧ w'.cell? ⟨b1, o1 + k * 2 + 1, none⟩ = some (.int .i64 (rgt cs k)) ∧ w'.cell? ⟨b2, o2 + k * 2, none⟩ = some (.int .i64 (lft ds k)) ∧ w'.cell? ⟨b2, o2 + k * 2 + 1, none⟩ = some (.int .i64 (rgt ds k)))
            (first | exact ⟨(ht3.cell (p := ⟨b1, o1 + k * 2, none⟩) hb1).trans hc1, (ht3.cell (p := ⟨b1, o1 + k * 2 + 1, none⟩) hb1).trans hc1', (ht3.cell (p := ⟨b2, o2 + k * 2, none⟩) hb2).trans hc2, (ht3.cell (p := ⟨b2, o2 + k * 2 + 1, none⟩) hb2).trans hc2'⟩ | go_keep)
            (first | (go_at_call 62; refine (eqInterval_any _ _ _ _ _).mono ?_; rw [he]; rintro e w3 ⟨rfl, hb3⟩; have ht3 : Below wr.heap.size wr w3 := (Joins.below_draws _ _ _).trans hb3))
          go_wp2_with fail
          go_ret
          exact ⟨ret_bool HF.out.symm, hb.trans (ht3.mono hb.size)⟩
        · have HE := Lib.hid (eqV_at HT.out (by have := HN.out; omega) (by have := HM.out; omega) he)
          go_wp2_with fail
          go_region_held3 (fun w' => w'.cell? ⟨b1, o1 + k * 2, none⟩ = some (.int .i64 (lft cs k)) ∧ w'.cell? ⟨b1, o1 + k * 2 + 1, none⟩ = some (.int .i64 (rgt cs k)) ∧ w'.cell? ⟨b2, o2 + k * 2, none⟩ = some (.int .i64 (lft ds k)) ∧ w'.cell? ⟨b2, o2 + k * 2 + 1, none⟩ = some (.int .i64 (rgt ds k)))
            (first | exact ⟨(ht3.cell (p := ⟨b1, o1 + k * 2, none⟩) hb1).trans hc1, (ht3.cell (p := ⟨b1, o1 + k * 2 + 1, none⟩) hb1).trans hc1', (ht3.cell (p := ⟨b2, o2 + k * 2, none⟩) hb2).trans hc2, (ht3.cell (p := ⟨b2, o2 + k * 2 + 1, none⟩) hb2).trans hc2'⟩ | go_keep)
            (first | (go_at_call 62; refine (eqInterval_any _ _ _ _ _).mono ?_; rw [he]; rintro e w3 ⟨rfl, hb3⟩; have ht3 : Below wr.heap.size wr w3 := (Joins.below_draws _ _ _).trans hb3))
          go_wp2_with fail
          go_roundw
          case rel => exact ⟨k + 1, by omega, by go_num, HE.out, hb.trans (ht3.mono hb.size)⟩
          case measure => simp [intOf]; omega
      · obtain rfl : k = n := by omega
        go_wp2_with fail
        go_ret
        refine ⟨ret_bool ?_, hb⟩
        have h1 := HT.out
        have h2 := HN.out
        have h3 := HM.out
        rw [List.take_of_length_le (by omega), List.take_of_length_le (by omega)] at h1
        simp [eqL, h1]
  · have hl' : ((n : Int) != (m : Int)) = true := by simp; omega
    have HF : Hid (eqL cs ds = false) := by
      rw [Hid, eqL, decide_eq_false_iff_not]
      rintro rfl
      omega
    clear hl hn hm
    go_enter Try.func33, Try.ntmps33
    go_wp2_with fail
    go_ret
    exact ⟨ret_bool HF.out.symm, Below.refl _ _⟩

theorem heldIntervalS_any (a : Option Addr) (n cap : Nat) (k : Int) (w : World) (h0 : 0 ≤ k) (h1 : k ≤ 1099511627776) (hn : n ≤ 1048576) (hx : Rd w a (marks k (n * 2))) :
    Calls Try.prog 45 #[.slice a n cap, .int .i64 k] w fun e w' => e = .returned (.int .i64 (k + (n * 2 : Nat))) ∧ Below w.heap.size w w' := by
  go_enter Try.func45, Try.ntmps45
  go_wp2_with fail
  go_loop [1, 5] (fun k' i => ∃ j : Nat, j ≤ n ∧ i = .int .i64 j ∧ k' = .int .i64 (k + (j * 2 : Nat))) (fun _ i => n - (intOf i).toNat)
  case atStart => exact ⟨0, Nat.zero_le _, rfl, by simp⟩
  case round =>
    obtain ⟨j, hj, rfl, rfl⟩ := hrel
    by_cases hlt : j < n
    · obtain ⟨b, off, rfl, hbl, hc1, hc2⟩ := hx.pair (marks_len _ _) hlt
      have e1 : lft (marks k (n * 2)) j = k + (j * 2 : Nat) := marks_nth (by omega)
      have e2 : rgt (marks k (n * 2)) j = k + (j * 2 : Nat) + 1 := by
        have := marks_nth (k := k) (n := n * 2) (j := j * 2 + 1) (by omega)
        unfold rgt
        rw [this]; omega
      rw [e1] at hc1
      rw [e2] at hc2
      clear e1 e2
      go_wp2_with fail
      go_round
      case rel => exact ⟨j + 1, by omega, by go_num, val_int (by omega)⟩
      case measure => simp [intOf]; omega
    · obtain rfl : j = n := by omega
      go_wp2_with fail
      go_ret
      exact ⟨rfl, (by repeat (first | exact Below.refl _ _ | assumption | refine Below.alloc ?_ (by first | exact Nat.le_refl _ | (simp only [World.size_alloc, World.size_setCell, World.size_drew]; omega) | omega) _ | refine Below.setCell ?_ (by first | exact Nat.le_refl _ | (simp only [World.size_alloc, World.size_setCell, World.size_drew]; omega) | omega) _ | refine Below.drew ?_))⟩

theorem walk (n0 : Int) (a0 : Option Addr) (xs0 : List Int) (cap0 : Nat) (w : World) (hn0 : -9223372036854775808 ≤ n0 ∧ n0 ≤ 9223372036854775807) (hx0 : Rd w a0 xs0) :
    Calls Try.prog 12 #[.agg #[.int .i64 n0, .slice a0 xs0.length cap0]] w fun e w' => e = .returned (.bool true) ∧ Below w.heap.size w w' := by
  have hR0 : endN n0 xs0 ≤ 1048576 := endN_le
  by_cases hs0 : 1048576 < (xs0.length : Int)
  · go_enter Try.func12, Try.ntmps12
    go_wp2_with fail
    refine (szOrder_no (by omega) (by omega) (by omega) hx0.len).mono ?_
    rintro e w1 ⟨rfl, hb1⟩
    have bw1 : Below w.heap.size w w1 := Below.trans (by repeat (first | exact Below.refl _ _ | assumption | refine Below.alloc ?_ (by first | exact Nat.le_refl _ | (simp only [World.size_alloc, World.size_setCell, World.size_drew]; omega) | omega) _ | refine Below.setCell ?_ (by first | exact Nat.le_refl _ | (simp only [World.size_alloc, World.size_setCell, World.size_drew]; omega) | omega) _ | refine Below.drew ?_)) (hb1.mono (by first | (simp only [World.size_alloc, World.size_setCell, World.size_drew]; omega) | omega))
    have A0_1 : Box2 w1 w.heap.size (.int .i64 n0) (.slice a0 xs0.length cap0) := ⟨by have := hb1.size; simp at this; omega, (hb1.cell (p := ⟨w.heap.size, 0, none⟩) (by simp <;> omega)).trans (by simp), (hb1.cell (p := ⟨w.heap.size, 1, none⟩) (by simp <;> omega)).trans (by simp)⟩
    have ⟨zA0_1, cA0_1, dA0_1⟩ := A0_1
    go_wp2_with fail
    go_ret
    exact ⟨rfl, bw1⟩
  go_enter Try.func12, Try.ntmps12
  go_wp2_with fail
  refine (szOrder_ok (by omega) (by omega)).mono ?_
  rintro e w1 ⟨rfl, hb⟩
  have bw1 : Below w.heap.size w w1 := Below.trans (by repeat (first | exact Below.refl _ _ | assumption | refine Below.alloc ?_ (by first | exact Nat.le_refl _ | (simp only [World.size_alloc, World.size_setCell, World.size_drew]; omega) | omega) _ | refine Below.setCell ?_ (by first | exact Nat.le_refl _ | (simp only [World.size_alloc, World.size_setCell, World.size_drew]; omega) | omega) _ | refine Below.drew ?_)) (hb.mono (by first | (simp only [World.size_alloc, World.size_setCell, World.size_drew]; omega) | omega))
  have z1 : w.heap.size ≤ w1.heap.size := bw1.size
  have A0_1 : Box2 w1 w.heap.size (.int .i64 n0) (.slice a0 xs0.length cap0) := ⟨by have := hb.size; simp at this; omega, (hb.cell (p := ⟨w.heap.size, 0, none⟩) (by simp <;> omega)).trans (by simp), (hb.cell (p := ⟨w.heap.size, 1, none⟩) (by simp <;> omega)).trans (by simp)⟩
  have ⟨zA0_1, cA0_1, dA0_1⟩ := A0_1
  clear hb
  go_wp2_with fail
  refine (toOrder_any _ _ _ _ _ (hx0.below bw1) (by omega)).mono ?_
  rintro e w2 ⟨pT0, qT0, rfl, ho, hb⟩
  have ht : Below w1.heap.size w1 w2 := hb
  have z2 : w1.heap.size ≤ w2.heap.size := ht.size
  have bw2 : Below w.heap.size w w2 := bw1.trans (ht.mono bw1.size)
  have A0_2 := A0_1.below ht
  have ⟨zA0_2, cA0_2, dA0_2⟩ := A0_2
  clear A0_1 cA0_1 dA0_1
  have T0_2 := ho
  have UT0 := T0_2.cut (Nat.le_refl _)
  clear ho
  clear ht hb
  go_wp2_with fail
  refine (sEnds_any _ _ _ _ _ hn0 (T0_2.rd)).mono ?_
  rintro e w3 ⟨pR0, qR0, rfl, ho0, hb⟩
  have ht : Below w2.heap.size w2 w3 := hb
  have z3 : w2.heap.size ≤ w3.heap.size := ht.size
  have bw3 : Below w.heap.size w w3 := bw2.trans (ht.mono bw2.size)
  have A0_3 := A0_2.below ht
  have ⟨zA0_3, cA0_3, dA0_3⟩ := A0_3
  have T0_3 := T0_2.below ht (Nat.le_refl _)
  clear A0_2 cA0_2 dA0_2 T0_2
  have R0_3 := ho0
  have UR0 := R0_3.cut (Nat.le_refl _)
  clear ho0
  clear ht hb
  go_wp2_with fail
  clear T0_3 UT0
  refine (toOrder_any _ _ _ _ _ (hx0.below bw3) (by omega)).mono ?_
  rintro e w4 ⟨pX0, qX0, rfl, ho, hb⟩
  have ht : Below w3.heap.size w3 w4 := hb
  have z4 : w3.heap.size ≤ w4.heap.size := ht.size
  have bw4 : Below w.heap.size w w4 := bw3.trans (ht.mono bw3.size)
  have A0_4 := A0_3.below ht
  have ⟨zA0_4, cA0_4, dA0_4⟩ := A0_4
  have R0_4 := R0_3.below ht (Nat.le_refl _)
  clear A0_3 cA0_3 dA0_3 R0_3
  have X0_4 := ho
  have UX0 := X0_4.cut (Nat.le_refl _)
  clear ho
  clear ht hb
  go_wp2_with fail
  refine (iEnds_any _ _ _ _ _ hn0 (X0_4.rd.below (by repeat (first | exact Below.refl _ _ | assumption | refine Below.alloc ?_ (by first | exact Nat.le_refl _ | (simp only [World.size_alloc, World.size_setCell, World.size_drew]; omega) | omega) _ | refine Below.setCell ?_ (by first | exact Nat.le_refl _ | (simp only [World.size_alloc, World.size_setCell, World.size_drew]; omega) | omega) _ | refine Below.drew ?_)))).mono ?_
  rintro e w5 ⟨pG0, qG0, rfl, ho0, hb⟩
  have ht : Below w4.heap.size w4 w5 := Below.trans (by repeat (first | exact Below.refl _ _ | assumption | refine Below.alloc ?_ (by first | exact Nat.le_refl _ | (simp only [World.size_alloc, World.size_setCell, World.size_drew]; omega) | omega) _ | refine Below.setCell ?_ (by first | exact Nat.le_refl _ | (simp only [World.size_alloc, World.size_setCell, World.size_drew]; omega) | omega) _ | refine Below.drew ?_)) (hb.mono (by first | (simp only [World.size_alloc, World.size_setCell, World.size_drew]; omega) | omega))
  have z5 : w4.heap.size ≤ w5.heap.size := ht.size
  have bw5 : Below w.heap.size w w5 := bw4.trans (ht.mono bw4.size)
  have A0_5 := A0_4.below ht
  have BX0_5 : Box2 w5 w4.heap.size (.int .i64 n0) (.slice pX0 xs0.length qX0) := (Box2.new w4 _ _ 26).below hb
  have ⟨zA0_5, cA0_5, dA0_5⟩ := A0_5
  have ⟨zBX0_5, cBX0_5, dBX0_5⟩ := BX0_5
  have R0_5 := R0_4.below ht (Nat.le_refl _)
  have X0_5 := X0_4.below ht (Nat.le_refl _)
  clear A0_4 cA0_4 dA0_4 R0_4 X0_4
  have G0_5 := ho0
  have UG0 := G0_5.cut (Nat.le_refl _); simp only [World.size_alloc] at UG0
  clear ho0
  clear ht hb
  go_wp2_with fail
  refine (eqIntervalS_any _ _ (endL n0 xs0) (endL n0 xs0) (endN n0 xs0) (endN n0 xs0) _ _ _ ((G0_5.rd hR0)) ((R0_5.rd hR0)) (endL_len _ _) (endL_len _ _) hR0 hR0).mono ?_
  rw [eqL_self]
  rintro e w6 ⟨rfl, hb⟩
  have ht : Below w5.heap.size w5 w6 := hb
  have z6 : w5.heap.size ≤ w6.heap.size := ht.size
  have bw6 : Below w.heap.size w w6 := bw5.trans (ht.mono bw5.size)
  have A0_6 := A0_5.below ht
  have BX0_6 := BX0_5.below ht
  have ⟨zA0_6, cA0_6, dA0_6⟩ := A0_6
  have ⟨zBX0_6, cBX0_6, dBX0_6⟩ := BX0_6
  have R0_6 := R0_5.below ht (Nat.le_refl _)
  have X0_6 := X0_5.below ht (Nat.le_refl _)
  have G0_6 := G0_5.below ht (Nat.le_refl _)
  clear A0_5 cA0_5 dA0_5 BX0_5 cBX0_5 dBX0_5 R0_5 X0_5 G0_5
  clear ht hb
  go_wp2_with fail
  go_region_held3 (fun w' => w'.cell? ⟨w.heap.size, 0, none⟩ = some (.int .i64 n0) ∧ w'.cell? ⟨w.heap.size, 1, none⟩ = some (.slice a0 xs0.length cap0) ∧ w'.cell? ⟨w4.heap.size, 0, none⟩ = some (.int .i64 n0) ∧ w'.cell? ⟨w4.heap.size, 1, none⟩ = some (.slice pX0 xs0.length qX0))
    (first | exact ⟨P8.2.1, P8.2.2, Q8.2.1, Q8.2.2⟩ | exact ⟨P7.2.1, P7.2.2, Q7.2.1, Q7.2.2⟩ | go_keep)
    (first | (go_at_call 15; refine (toOrder_any _ _ _ _ _ (hx0.below (bw6.trans (Joins.below_draws _ _ _))) (by omega)).mono ?_; rintro e w7 ⟨a7', cap7', rfl, ho7, hb7⟩; have ht7 : Below w6.heap.size w6 w7 := (Joins.below_draws _ _ _).trans hb7; have P7 := A0_6.below ht7; have Q7 := BX0_6.below ht7) | (go_at_call 17; refine (eqOrder_any _ _ _ _ xs0 xs0 _ _ _ (X0_6.rd.below ht7) ho7.rd).mono ?_; rw [eqO_refl]; rintro e w8 ⟨rfl, hb8⟩; have P8 := P7.below hb8; have Q8 := Q7.below hb8))
  have ht : Below w6.heap.size w6 w8 := ht7.trans (hb8.mono ht7.size)
  have z8 : w6.heap.size ≤ w8.heap.size := ht.size
  have bw8 : Below w.heap.size w w8 := bw6.trans (ht.mono bw6.size)
  clear P7 Q7 P8 Q8 ho7
  have A0_8 := A0_6.below ht
  have BX0_8 := BX0_6.below ht
  have ⟨zA0_8, cA0_8, dA0_8⟩ := A0_8
  have ⟨zBX0_8, cBX0_8, dBX0_8⟩ := BX0_8
  have R0_8 := R0_6.below ht (Nat.le_refl _)
  have X0_8 := X0_6.below ht (Nat.le_refl _)
  have G0_8 := G0_6.below ht (Nat.le_refl _)
  clear A0_6 cA0_6 dA0_6 BX0_6 cBX0_6 dBX0_6 R0_6 X0_6 G0_6
  clear ht hb8 ht7 hb7
  go_wp2_with fail
  refine (markOrder_any _ _ _ _ _ _ _ (by omega) (by omega) (by omega) X0_8).mono ?_
  rintro e w9 ⟨rfl, ho, hg⟩
  have z9 : w8.heap.size ≤ w9.heap.size := hg.size
  have bw9 : Below w.heap.size w w9 := bw8.trans (below_of_grown hg (fun b e => by have := UX0 b e; omega) (by omega))
  have A0_9 := A0_8.kept hg (ne_own (fun c e => by have := UX0 c e; omega))
  have ⟨zA0_9, cA0_9, dA0_9⟩ := A0_9
  have BX0_9 := BX0_8.kept hg (ne_own (fun c e => by have := UX0 c e; omega))
  have ⟨zBX0_9, cBX0_9, dBX0_9⟩ := BX0_9
  have R0_9 := R0_8.kept hg (own_ne (fun c e e2 => by have h1 := UR0 c e; have h2 := UX0 c e2; omega))
  have G0_9 := G0_8.kept hg (own_ne (fun c e e2 => by have h1 := UG0 c e; have h2 := UX0 c e2; omega))
  clear A0_8 cA0_8 dA0_8 BX0_8 cBX0_8 dBX0_8 R0_8 X0_8 G0_8 hg
  have X0_9 := ho
  clear ho
  go_wp2_with fail
  refine (eqIntervalS_any _ _ (endL n0 xs0) (endL n0 xs0) (endN n0 xs0) (endN n0 xs0) _ _ _ ((G0_9.rd hR0)) ((R0_9.rd hR0)) (endL_len _ _) (endL_len _ _) hR0 hR0).mono ?_
  rw [eqL_self]
  rintro e w10 ⟨rfl, hb⟩
  have ht : Below w9.heap.size w9 w10 := hb
  have z10 : w9.heap.size ≤ w10.heap.size := ht.size
  have bw10 : Below w.heap.size w w10 := bw9.trans (ht.mono bw9.size)
  have A0_10 := A0_9.below ht
  have BX0_10 := BX0_9.below ht
  have ⟨zA0_10, cA0_10, dA0_10⟩ := A0_10
  have ⟨zBX0_10, cBX0_10, dBX0_10⟩ := BX0_10
  have R0_10 := R0_9.below ht (Nat.le_refl _)
  have X0_10 := X0_9.below ht (Nat.le_refl _)
  have G0_10 := G0_9.below ht (Nat.le_refl _)
  clear A0_9 cA0_9 dA0_9 BX0_9 cBX0_9 dBX0_9 R0_9 X0_9 G0_9
  clear ht hb
  go_wp2_with fail
  refine (markIntervalS_any _ _ _ _ _ _ _ (by omega) (by omega) hR0 G0_10).mono ?_
  rintro e w11 ⟨rfl, ho, hg⟩
  have z11 : w10.heap.size ≤ w11.heap.size := hg.size
  have bw11 : Below w.heap.size w w11 := bw10.trans (below_of_grown hg (fun b e => by have := UG0 b e; omega) (by omega))
  have A0_11 := A0_10.kept hg (ne_own (fun c e => by have := UG0 c e; omega))
  have ⟨zA0_11, cA0_11, dA0_11⟩ := A0_11
  have BX0_11 := BX0_10.kept hg (ne_own (fun c e => by have := UG0 c e; omega))
  have ⟨zBX0_11, cBX0_11, dBX0_11⟩ := BX0_11
  have R0_11 := R0_10.kept hg (own_ne (fun c e e2 => by have h1 := UR0 c e; have h2 := UG0 c e2; omega))
  have X0_11 := X0_10.kept hg (own_ne (fun c e e2 => by have h1 := UX0 c e; have h2 := UG0 c e2; omega))
  clear A0_10 cA0_10 dA0_10 BX0_10 cBX0_10 dBX0_10 R0_10 X0_10 G0_10 hg
  have G0_11 := ho
  clear ho
  go_wp2_with fail
  refine (heldIntervalS_any _ _ _ _ _ (by omega) (by omega) hR0 (G0_11.rd hR0)).mono ?_
  rintro e w12 ⟨rfl, hb⟩
  have ht : Below w11.heap.size w11 w12 := hb
  have z12 : w11.heap.size ≤ w12.heap.size := ht.size
  have bw12 : Below w.heap.size w w12 := bw11.trans (ht.mono bw11.size)
  have A0_12 := A0_11.below ht
  have BX0_12 := BX0_11.below ht
  have ⟨zA0_12, cA0_12, dA0_12⟩ := A0_12
  have ⟨zBX0_12, cBX0_12, dBX0_12⟩ := BX0_12
  have R0_12 := R0_11.below ht (Nat.le_refl _)
  have X0_12 := X0_11.below ht (Nat.le_refl _)
  have G0_12 := G0_11.below ht (Nat.le_refl _)
  clear A0_11 cA0_11 dA0_11 BX0_11 cBX0_11 dBX0_11 R0_11 X0_11 G0_11
  clear ht hb
  go_wp2_with fail
  clear X0_12 UX0
  refine (toOrder_any _ _ _ _ _ (hx0.below bw12) (by omega)).mono ?_
  rintro e w13 ⟨pV0, qV0, rfl, ho, hb⟩
  have ht : Below w12.heap.size w12 w13 := hb
  have z13 : w12.heap.size ≤ w13.heap.size := ht.size
  have bw13 : Below w.heap.size w w13 := bw12.trans (ht.mono bw12.size)
  have A0_13 := A0_12.below ht
  have BX0_13 := BX0_12.below ht
  have ⟨zA0_13, cA0_13, dA0_13⟩ := A0_13
  have ⟨zBX0_13, cBX0_13, dBX0_13⟩ := BX0_13
  have R0_13 := R0_12.below ht (Nat.le_refl _)
  have G0_13 := G0_12.below ht (Nat.le_refl _)
  clear A0_12 cA0_12 dA0_12 BX0_12 cBX0_12 dBX0_12 R0_12 G0_12
  have V0_13 := ho
  have UV0 := V0_13.cut (Nat.le_refl _)
  clear ho
  clear ht hb
  go_wp2_with fail
  refine (iEnds_any _ _ _ _ _ hn0 (V0_13.rd)).mono ?_
  rintro e w14 ⟨pH0, qH0, rfl, ho0, hb⟩
  have ht : Below w13.heap.size w13 w14 := hb
  have z14 : w13.heap.size ≤ w14.heap.size := ht.size
  have bw14 : Below w.heap.size w w14 := bw13.trans (ht.mono bw13.size)
  have A0_14 := A0_13.below ht
  have BX0_14 := BX0_13.below ht
  have ⟨zA0_14, cA0_14, dA0_14⟩ := A0_14
  have ⟨zBX0_14, cBX0_14, dBX0_14⟩ := BX0_14
  have R0_14 := R0_13.below ht (Nat.le_refl _)
  have G0_14 := G0_13.below ht (Nat.le_refl _)
  have V0_14 := V0_13.below ht (Nat.le_refl _)
  clear A0_13 cA0_13 dA0_13 BX0_13 cBX0_13 dBX0_13 R0_13 G0_13 V0_13
  have H0_14 := ho0
  have UH0 := H0_14.cut (Nat.le_refl _)
  clear ho0
  clear ht hb
  go_wp2_with fail
  clear V0_14 UV0
  refine (eqIntervalS_any _ _ (endL n0 xs0) (endL n0 xs0) (endN n0 xs0) (endN n0 xs0) _ _ _ ((H0_14.rd hR0)) ((R0_14.rd hR0)) (endL_len _ _) (endL_len _ _) hR0 hR0).mono ?_
  rw [eqL_self]
  rintro e w15 ⟨rfl, hb⟩
  have ht : Below w14.heap.size w14 w15 := hb
  have z15 : w14.heap.size ≤ w15.heap.size := ht.size
  have bw15 : Below w.heap.size w w15 := bw14.trans (ht.mono bw14.size)
  have A0_15 := A0_14.below ht
  have BX0_15 := BX0_14.below ht
  have ⟨zA0_15, cA0_15, dA0_15⟩ := A0_15
  have ⟨zBX0_15, cBX0_15, dBX0_15⟩ := BX0_15
  have R0_15 := R0_14.below ht (Nat.le_refl _)
  have G0_15 := G0_14.below ht (Nat.le_refl _)
  have H0_15 := H0_14.below ht (Nat.le_refl _)
  clear A0_14 cA0_14 dA0_14 BX0_14 cBX0_14 dBX0_14 R0_14 G0_14 H0_14
  clear ht hb
  go_wp2_with fail
  refine (heldIntervalS_any _ _ _ _ _ (by omega) (by omega) hR0 (G0_15.rd hR0)).mono ?_
  rintro e w16 ⟨rfl, hb⟩
  have ht : Below w15.heap.size w15 w16 := hb
  have z16 : w15.heap.size ≤ w16.heap.size := ht.size
  have bw16 : Below w.heap.size w w16 := bw15.trans (ht.mono bw15.size)
  have A0_16 := A0_15.below ht
  have BX0_16 := BX0_15.below ht
  have ⟨zA0_16, cA0_16, dA0_16⟩ := A0_16
  have ⟨zBX0_16, cBX0_16, dBX0_16⟩ := BX0_16
  have R0_16 := R0_15.below ht (Nat.le_refl _)
  have G0_16 := G0_15.below ht (Nat.le_refl _)
  have H0_16 := H0_15.below ht (Nat.le_refl _)
  clear A0_15 cA0_15 dA0_15 BX0_15 cBX0_15 dBX0_15 R0_15 G0_15 H0_15
  clear ht hb
  go_wp2_with fail
  go_ret
  exact ⟨rfl, bw16⟩

theorem rd_of_trod {H : Type} {enc : TypeId × Value → H} {W : World} {fuel : Nat} {c : Value} {y : DataW H × List MemPlace}
    (h : DataW.trod enc Try.prog W 0 (fun _ => true) true fuel 22 [c] = some y) : ∃ (a : Option Addr) (xs : List Int) (cap : Nat), c = .slice a xs.length cap ∧ Rd W a xs ∧ ∀ k, k < xs.length → (Lit.int .i64 (nth xs k)).wf = true := by
  rcases Go.ChangeShapes.open_ints Try.underlying22 Try.underlying3 (by kernel_rfl) h with ⟨hcs, _⟩ | ⟨x, len, cap, zs, hcs, _, hl, hm, hz, _, hcell, hwf⟩
  · simp only [List.cons.injEq, and_true] at hcs
    exact ⟨none, [], 0, hcs, ⟨by simp, fun k hk => by simp at hk⟩, fun k hk => by simp at hk⟩
  · simp only [List.cons.injEq, and_true] at hcs
    simp only [if_true] at hz
    have hlen : (zs.take len).length = len := by rw [List.length_take]; omega
    have hn : ∀ k, k < len → nth (zs.take len) k = zs.getD k 0 := by
      intro k hk
      simp only [nth, List.getD_eq_getElem?_getD, List.getElem?_take, hk, if_true]
    refine ⟨some x, zs.take len, cap, by rw [hlen]; exact hcs, ⟨by rw [hlen]; unfold maxLen at hm; omega, fun k hk => ?_⟩, fun k hk => ?_⟩
    · rw [hlen] at hk
      obtain ⟨b, off, sp⟩ := x
      have h0 := hcell 0 (by omega)
      have hsp : sp = none := by simpa [Addr.add] using World.cell?_spot h0
      subst hsp
      have hk' := hcell k (by omega)
      rw [Addr.add_lit] at hk'
      exact ⟨b, off, rfl, World.block_lt_of_cell? _ _ h0, by rw [hk', hn k hk]⟩
    · rw [hlen] at hk
      rw [hn k hk]
      have hk2 : k < zs.length := by omega
      exact hwf _ (by rw [List.getD_eq_getElem?_getD, List.getElem?_eq_getElem hk2]; exact List.getElem_mem hk2)

theorem own : ownKnob Try.prog.godebug = none := by kernel_rfl
theorem laidOut : laidOutB Try.prog = true := by kernel_rfl
theorem wf_bd {n : Int} (h : (Lit.int .i64 n).wf = true) : -9223372036854775808 ≤ n ∧ n ≤ 9223372036854775807 := by
  simp [Lit.wf, IntKind.min, IntKind.max, IntKind.bits, IntKind.signed] at h
  omega

theorem cellsO : Try.prog.cellsOf 24 = 2 := by kernel_rfl

open Go.ChangeShapes Go.WideShapes Go.ChangeAt Go.RowKit in
set_option maxRecDepth 100000 in
theorem lifted (os : Os) (started : os.Started) (H : Type) (enc : TypeId × Value → H) :
    ReturnsInHanded {} Try.checked os 12 .any (Rows.fnExactEndsOfSpec.pre6 enc Try.prog Try.f12 Rows.fnExactEndsOfRow.domain false) (Rows.fnExactEndsOfSpec.post enc Try.prog Try.f12 false true false false) := by
  refine returnsInHanded_of_change (C := Try.checked) own started (by kernel_rfl) Try.func12
    (ChangeSpec.witness6 (enc := enc) (C := Try.checked) false ⟨#[], #[.agg #[.int .i64 0, .slice none 0 0]], []⟩ 8 (by kernel_rfl) (by kernel_rfl) (by kernel_rfl) (by kernel_rfl)) ?_
  intro W base args ds gs before hval0 hW hcnd _
  have hval : ∀ (j : Nat) t v, Try.f12.params[j]? = some t → args[j]? = some v → Value.okWide Try.prog W .any base t v := hval0
  have hW' := hW
  obtain ⟨p, q, hA0, hV, rfl, hfz, hnd⟩ := hW
  have hA : DataW.TrodAll enc Try.prog W 0 (fun _ => true) true Try.f12.params.toList args.toList ds p := hA0
  rw [Try.params12] at hA hval
  obtain ⟨v0, vs0, d0, ds0, p0, q0, hargs, rfl, rfl, h0, r0⟩ := trodAll_cons hA
  obtain ⟨rfl, rfl, rfl⟩ := trodAll_nil r0
  obtain rfl : args = #[v0] := by cases args; simp_all
  obtain ⟨rfl, rfl⟩ := trodVars_none hV
  have lt0 : ∀ x ∈ p0, x.block < W.heap.size := by obtain ⟨m, hm⟩ := h0; exact DataW.trod_lt m _ _ _ hm
  obtain ⟨c00, c01, y00, y01, m0, rfl, hd0, hp0, hy00, hy01⟩ := Go.Joins.open_agg2 Try.underlying24 (by kernel_rfl) cellsO (hval 0 24 v0 rfl rfl) h0
  obtain ⟨n0, e00, _, wf0⟩ := DataW.trod_int Try.underlying3 hy00
  simp only [List.cons.injEq, and_true] at e00
  subst e00
  obtain ⟨a0, xs0, cap0, rfl, rd0, wl0⟩ := rd_of_trod hy01
  clear hA0 hval0
  refine (walk n0 a0 xs0 cap0 W (wf_bd wf0) rd0).mono fun e W' ⟨he, bel⟩ => ?_
  subst he
  exact ⟨_, rfl, _, _, _, [], _, [], hW', trodAll_mk1 (shut_bool Try.underlying4 _), (trodAll_cons_mk (Below.trod laidOut (by kernel_rfl) (of_decide_eq_true (by kernel_rfl)) h0 bel lt0) trodAll_mk0), rfl, bel.frame _, fun h => by cases h⟩
theorem proved : Rows.FnExactEndsOfSaid :=
  OpenClaim.holds_of_wide 12 Try.f12 rfl rfl rfl rfl rfl rfl rfl ⟨rfl, rfl, rfl, rfl, rfl⟩ rfl rfl rfl rfl rfl (by kernel_rfl) Try.func12 (by kernel_rfl)
    (of_decide_eq_true (by kernel_rfl)) (by unfold Func.isWrapper; first | (rw [if_pos (by decide +kernel)]; kernel_rfl) | (rw [if_neg (by decide +kernel)]; exact ⟨rfl, rfl⟩))
    (fun os started H enc _ => lifted os started H enc)

end Go.Proofs.Ytphemaojcjcfpaa.endsOf
