/- PROVED: the law FnExactAreAlike returns true for every input, and each of its arguments reads afterwards as before. No conditions. -/
import Derived.Test.YtpenikceoogmgaaRows
import Derived.WalkKit
import Derived.WalkSpells
import Derived.WalkLawsBesides
import Derived.Deep.QuietTactic
import Derived.BigQuiet
import Derived.ProofKit
import Derived.OpenShut
import Derived.ShutString
import Derived.ChangeOld
import Derived.Below
import Derived.Lib.SmallJoins
import Derived.Lib.Hide
import Derived.Maps.AppendAt
import Derived.Deep.AppendLies
import Derived.Deep.RegionLaw
import Derived.Deep.RegionHeld3
import Derived.Shelf.Small.Bits
import Derived.Shelf.Small.Wraps
import Derived.Shelf.Strconv.Itoa0
import Derived.Shelf.Sort.Plain
import Derived.Shelf.Slices.Reverse
import Derived.Shelf.Slices.Equal
import Derived.Shelf.Slices.CompactI
import Derived.Shelf.Slices.SearchI
import Derived.Shelf.Slices.Delete
import Derived.Shelf.Slices.Cells
import Derived.Shelf.Slices.In.SortNone
import Derived.Shelf.Slices.Empties2
import Derived.Sort.OwnSortedInts
import Derived.Lib.SlicesCompact
import Derived.Lib.RowBridge
import Derived.Test.YtpenikceoogmgaaAreAlikeP1
namespace Go.Proofs.Ytpenikceoogmgaa.areAlike
open Go Go.RowKit
set_option linter.unusedVariables false
set_option linter.unusedSimpArgs false
set_option maxHeartbeats 400000
open Go.Shelf
set_option maxRecDepth 100000 in
theorem maSame_any (a b : Option Addr) (xss yss : List (List Int)) (ca cb : Nat) (w : World) (hx : RdS w a xss) (hy : RdS w b yss) :
    Calls Try.prog 64 #[.agg #[.slice a xss.length ca], .agg #[.slice b yss.length cb]] w fun e w' => e = .returned (.bool (eqR xss yss)) ∧ Below w.heap.size w w' := by
  have hlx := hx.len
  have hly := hy.len
  have hb0 : Below w.heap.size w ((w.alloc (.cells #[.slice a xss.length ca] 39)).alloc (.cells #[.slice b yss.length cb] 39)) := (by repeat (first | exact Below.refl _ _ | assumption | refine Below.alloc ?_ (by first | exact Nat.le_refl _ | (simp only [World.size_alloc, World.size_setCell, World.size_drew]; omega) | omega) _ | refine Below.setCell ?_ (by first | exact Nat.le_refl _ | (simp only [World.size_alloc, World.size_setCell, World.size_drew]; omega) | omega) _ | refine Below.drew ?_))
  by_cases hl : xss.length = yss.length
  · have hl' : ((xss.length : Int) != (yss.length : Int)) = false := by simp [hl]
    have HL := Lib.hid hl
    have hA : Box1 ((w.alloc (.cells #[.slice a xss.length ca] 39)).alloc (.cells #[.slice b yss.length cb] 39)) w.heap.size (.slice a xss.length ca) := (Box1.new w _ _).below ((Below.refl _ _).alloc (Nat.le_refl _) _)
    have hB := Box1.new (w.alloc (.cells #[.slice a xss.length ca] 39)) (.slice b yss.length cb) 39
    rw [World.size_alloc] at hB
    clear hl
    go_enter Try.func64, Try.ntmps64
    go_wp2_with fail
    go_loopw [16] (fun i wr => ∃ k : Nat, k ≤ xss.length ∧ i = .int .i64 k ∧ Hid (∀ j, j < k → eqL (rowL xss j) (rowL yss j) = true) ∧ Box1 wr w.heap.size (.slice a xss.length ca) ∧ Box1 wr (w.heap.size + 1) (.slice b yss.length cb) ∧ Below w.heap.size w wr) (fun i _ => xss.length - (intOf i).toNat)
    case atStart => exact ⟨0, Nat.zero_le _, rfl, fun j hj => by omega, hA, hB, hb0⟩
    case round =>
      clear hA hB hb0
      obtain ⟨k, hk, rfl, HA, hA, hB, hb⟩ := hrel
      have hbs := hb.size
      have ⟨zA, cA⟩ := hA
      have ⟨zB, cB⟩ := hB
      by_cases hlt : k < xss.length
      · have hlt' : k < yss.length := by rw [← HL.out]; exact hlt
        obtain ⟨b1, o1, a1, c1, rfl, hb1, hc1, hr1⟩ := (hx.below hb).row k hlt
        obtain ⟨b2, o2, a2, c2, rfl, hb2, hc2, hr2⟩ := (hy.below hb).row k hlt'
        have k1 : (k : Int) < (xss.length : Int) := by omega
        have k2 : (k : Int) < (yss.length : Int) := by omega
        have hrl1 := hr1.len
        have hrl2 := hr2.len
        have HC : Hid (∀ W, Below wr.heap.size wr W → Calls Try.prog 97 #[.slice a1 (rowL xss k).length c1, .slice a2 (rowL yss k).length c2] W fun e w' => e = .returned (.bool (eqL (rowL xss k) (rowL yss k))) ∧ Below W.heap.size W w') := fun W h => l1Same_any a1 a2 (rowL xss k) (rowL yss k) c1 c2 W (hr1.below h) (hr2.below h)
        have HBX := Lib.hid (And.intro hA hB)
        cases he : eqL (rowL xss k) (rowL yss k)
        · have H : Hid (eqR xss yss = false) := by
            rw [Hid, ← Bool.not_eq_true, eqR_iff]
            intro h
            rw [h.2 k hlt] at he
            cases he
          rw [he] at HC
          clear he hr1 hr2 hA hB
          go_wp2_with fail
          go_region_law (go_simp; go_at_call 97; refine (HC.out _ (Joins.below_draws _ _ _)).mono ?_; rintro e w2 ⟨rfl, hb2'⟩)
          all_goals
            go_wp2_with fail
            go_ret
            exact ⟨ret_bool H.out.symm, hb.trans (((Joins.below_draws _ _ _).trans hb2').mono hbs)⟩
        · have HE := Lib.hid he
          rw [he] at HC
          clear he hr1 hr2 hA hB
          go_wp2_with fail
          go_region_law (go_simp; go_at_call 97; refine (HC.out _ (Joins.below_draws _ _ _)).mono ?_; rintro e w2 ⟨rfl, hb2'⟩; have ht2 := (Joins.below_draws _ _ _).trans hb2')
          all_goals
            go_wp2_with fail
            go_roundw
            case rel =>
              refine ⟨k + 1, by omega, by go_num, fun j hj => ?_, HBX.out.1.below ht2, HBX.out.2.below ht2, hb.trans (ht2.mono hbs)⟩
              by_cases e : j = k
              · rw [e]; exact HE.out
              · exact HA.out j (by omega)
            case measure => simp [intOf]; omega
      · obtain rfl : k = xss.length := by omega
        have H : Hid (eqR xss yss = true) := eqR_iff.2 ⟨HL.out, HA.out⟩
        go_wp2_with fail
        go_ret
        exact ⟨ret_bool H.out.symm, hb⟩
  · have hl' : ((xss.length : Int) != (yss.length : Int)) = true := by simp; omega
    have H : Hid (eqR xss yss = false) := by
      rw [Hid, ← Bool.not_eq_true, eqR_iff]
      intro h
      exact hl h.1
    clear hl
    go_enter Try.func64, Try.ntmps64
    go_wp2_with fail
    go_ret
    exact ⟨ret_bool H.out.symm, hb0⟩

theorem ivRefuses_any (n : Int) (ad : Option Addr) (xs : List Int) (cap : Nat) (a b c d : Nat) (w : World) (hx : Rd w ad xs) (hr : RelP n xs) (ha : a < xs.length) (hc : c < xs.length) :
    Calls Try.prog 135 #[.agg #[.int .i64 n, .slice ad xs.length cap], .int .i64 a, .int .i64 b, .int .i64 c, .int .i64 d] w fun e w' => e = .returned (.bool (refB xs a b c d)) ∧ Below w.heap.size w w' := by
  have hx1 := hx.alloc (.cells #[.int .i64 n, .slice ad xs.length cap] 28)
  have hn : xs.length ≤ 10 := by have := hr.len; have := hr.n1; omega
  have pa := hr.pos a ha
  have sa : nth xs a ≤ 9223372036854775807 := by have := hr.small a ha; omega
  have pc := hr.pos c hc
  have sc : nth xs c ≤ 9223372036854775807 := by have := hr.small c hc; omega
  have b0 : (0 : Int) ≤ (b : Int) := by omega
  have d0 : (0 : Int) ≤ (d : Int) := by omega
  have a1 : (a : Int) < (xs.length : Int) := by omega
  have c1 : (c : Int) < (xs.length : Int) := by omega
  obtain ⟨bl, off, rfl, hbl, hca⟩ := hx1.cell a ha
  obtain ⟨b', off', e', hbl', hcc⟩ := hx1.cell c hc
  simp only [Option.some.injEq, Addr.mk.injEq, and_true] at e'
  obtain ⟨rfl, rfl⟩ := e'
  obtain ⟨b', off', e', hbl0, hca0⟩ := hx.cell a ha
  simp only [Option.some.injEq, Addr.mk.injEq, and_true] at e'
  obtain ⟨rfl, rfl⟩ := e'
  obtain ⟨b', off', e', hbl0, hcc0⟩ := hx.cell c hc
  simp only [Option.some.injEq, Addr.mk.injEq, and_true] at e'
  obtain ⟨rfl, rfl⟩ := e'
  cases h1 : hasB (nth xs a) b
  · have HF : Hid (refB xs a b c d = false) := by simp [Hid, refB, h1]
    go_enter Try.func135, Try.ntmps135
    go_wp2_with (go_at_call 80; refine (orHas_any _ _ _ (by assumption) (by assumption) (by assumption)).mono ?_; rintro e w' ⟨rfl, rfl⟩)
    go_ret
    exact ⟨ret_bool HF.out.symm, (by repeat (first | exact Below.refl _ _ | assumption | refine Below.alloc ?_ (by first | exact Nat.le_refl _ | (simp only [World.size_alloc, World.size_setCell, World.size_drew]; omega) | omega) _ | refine Below.setCell ?_ (by first | exact Nat.le_refl _ | (simp only [World.size_alloc, World.size_setCell, World.size_drew]; omega) | omega) _ | refine Below.drew ?_))⟩
  · cases h2 : hasB (nth xs c) d
    · have HF : Hid (refB xs a b c d = false) := by simp [Hid, refB, h2]
      go_enter Try.func135, Try.ntmps135
      go_wp2_with (go_at_call 80; refine (orHas_any _ _ _ (by assumption) (by assumption) (by assumption)).mono ?_; rintro e w' ⟨rfl, rfl⟩)
      go_ret
      exact ⟨ret_bool HF.out.symm, (by repeat (first | exact Below.refl _ _ | assumption | refine Below.alloc ?_ (by first | exact Nat.le_refl _ | (simp only [World.size_alloc, World.size_setCell, World.size_drew]; omega) | omega) _ | refine Below.setCell ?_ (by first | exact Nat.le_refl _ | (simp only [World.size_alloc, World.size_setCell, World.size_drew]; omega) | omega) _ | refine Below.drew ?_))⟩
    · cases h3 : hasB (nth xs c) b
      · have HF : Hid (refB xs a b c d = !hasB (nth xs a) d) := by simp [Hid, refB, h1, h2, h3]
        go_enter Try.func135, Try.ntmps135
        go_wp2_with (go_at_call 80; refine (orHas_any _ _ _ (by assumption) (by assumption) (by assumption)).mono ?_; rintro e w' ⟨rfl, rfl⟩)
        go_ret
        exact ⟨ret_bool HF.out.symm, (by repeat (first | exact Below.refl _ _ | assumption | refine Below.alloc ?_ (by first | exact Nat.le_refl _ | (simp only [World.size_alloc, World.size_setCell, World.size_drew]; omega) | omega) _ | refine Below.setCell ?_ (by first | exact Nat.le_refl _ | (simp only [World.size_alloc, World.size_setCell, World.size_drew]; omega) | omega) _ | refine Below.drew ?_))⟩
      · have HF : Hid (refB xs a b c d = false) := by simp [Hid, refB, h3]
        go_enter Try.func135, Try.ntmps135
        go_wp2_with (go_at_call 80; refine (orHas_any _ _ _ (by assumption) (by assumption) (by assumption)).mono ?_; rintro e w' ⟨rfl, rfl⟩)
        go_ret
        exact ⟨ret_bool HF.out.symm, (by repeat (first | exact Below.refl _ _ | assumption | refine Below.alloc ?_ (by first | exact Nat.le_refl _ | (simp only [World.size_alloc, World.size_setCell, World.size_drew]; omega) | omega) _ | refine Below.setCell ?_ (by first | exact Nat.le_refl _ | (simp only [World.size_alloc, World.size_setCell, World.size_drew]; omega) | omega) _ | refine Below.drew ?_))⟩

/-- nothing refuses ahead of the list k, l, m, o -/
def NoRef (xs : List Int) (k l m o : Nat) : Prop :=
  (∀ a, a < k → find1 (pairF xs a) xs.length = none) ∧ (∀ b, b < l → pairF xs k b = none) ∧ (∀ c, c < m → find1 (refF xs k l c) xs.length = none) ∧ ∀ d, d < o → refF xs k l m d = none
theorem NoRef.d {xs : List Int} {k l m o : Nat} (h : NoRef xs k l m o) (h1 : refB xs k l m o = false) : NoRef xs k l m (o+1) :=
  ⟨h.1, h.2.1, h.2.2.1, fun d hd => by
    by_cases e : d = o
    · rw [e, refF, h1]; rfl
    · exact h.2.2.2 d (by omega)⟩
theorem NoRef.c {xs : List Int} {k l m : Nat} (h : NoRef xs k l m xs.length) : NoRef xs k l (m+1) 0 :=
  ⟨h.1, h.2.1, fun c hc => by
    by_cases e : c = m
    · rw [e]; exact find1_none h.2.2.2
    · exact h.2.2.1 c (by omega), fun d hd => by omega⟩
theorem NoRef.b {xs : List Int} {k l : Nat} (h : NoRef xs k l xs.length 0) : NoRef xs k (l+1) 0 0 :=
  ⟨h.1, fun b hb => by
    by_cases e : b = l
    · rw [e, pairF_ref]; exact find1_none h.2.2.1
    · exact h.2.1 b (by omega), fun c hc => by omega, fun d hd => by omega⟩
theorem NoRef.a {xs : List Int} {k : Nat} (h : NoRef xs k xs.length 0 0) : NoRef xs (k+1) 0 0 0 :=
  ⟨fun a ha => by
    by_cases e : a = k
    · rw [e]; exact find1_none h.2.1
    · exact h.1 a (by omega), fun b hb => by omega, fun c hc => by omega, fun d hd => by omega⟩
theorem NoRef.no {xs : List Int} {l m o : Nat} (h : NoRef xs xs.length l m o) : twoF xs = none := find1_none h.1
theorem NoRef.yes {xs : List Int} {k l m o : Nat} (h : NoRef xs k l m o) (hk : k < xs.length) (hl : l < xs.length) (hm : m < xs.length) (ho : o < xs.length) (h1 : refB xs k l m o = true) :
    twoF xs = some [(k : Int), (l : Int), (m : Int), (o : Int)] :=
  find1_some hk (find1_some hl (by rw [pairF_ref]; exact find1_some hm (find1_some ho (by rw [refF, h1]; rfl) h.2.2.2) h.2.2.1) h.2.1) h.1
theorem ivTwoTwo_any (n : Int) (a : Option Addr) (xs : List Int) (cap : Nat) (w : World) (hx : Rd w a xs) (hp : RelP n xs) :
    Calls Try.prog 111 #[.agg #[.int .i64 n, .slice a xs.length cap]] w fun e w' => ∃ a' cap', e = .returned (.tuple #[.slice a' ((twoF xs).getD []).length cap', .bool (twoF xs).isSome]) ∧ OwnI w' w.heap.size (.slice a' ((twoF xs).getD []).length cap') ((twoF xs).getD []) ∧ Below w.heap.size w w' := by
  have hl10 : xs.length ≤ 10 := by have := hp.len; have := hp.n1; omega
  obtain rfl : n = (xs.length : Int) := hp.len.symm
  go_enter Try.func111, Try.ntmps111
  go_wp2_with fail
  go_loopw [4] (fun i' wr => ∃ k : Nat, k ≤ xs.length ∧ i' = .int .i64 k ∧ NoRef xs k 0 0 0 ∧ Below w.heap.size w wr ∧ Box2 wr w.heap.size (.int .i64 (xs.length : Int)) (.slice a xs.length cap)) (fun i' _ => xs.length - (intOf i').toNat)
  case atStart => exact ⟨0, Nat.zero_le _, rfl, ⟨fun c hc => by omega, fun b hb => by omega, fun b hb => by omega, fun b hb => by omega⟩, (by repeat (first | exact Below.refl _ _ | assumption | refine Below.alloc ?_ (by first | exact Nat.le_refl _ | (simp only [World.size_alloc, World.size_setCell, World.size_drew]; omega) | omega) _ | refine Below.setCell ?_ (by first | exact Nat.le_refl _ | (simp only [World.size_alloc, World.size_setCell, World.size_drew]; omega) | omega) _ | refine Below.drew ?_)), Box2.new w _ _ _⟩
  case round =>
    obtain ⟨k, hk, rfl, hall, hb, hB⟩ := hrel
    obtain ⟨wo, rfl⟩ : ∃ wo : World, wo = wr := ⟨_, rfl⟩
    have ⟨zr, cr, dr⟩ := hB
    have HA := Lib.hid hall
    clear hall
    by_cases hlt : k < xs.length
    · have k1 : (k : Int) < (xs.length : Int) := by omega
      go_wp2_with fail
      clear cr dr
      go_loopw [5] (fun i' wr => ∃ l : Nat, l ≤ xs.length ∧ i' = .int .i64 l ∧ NoRef xs k l 0 0 ∧ Below w.heap.size w wr ∧ Box2 wr w.heap.size (.int .i64 (xs.length : Int)) (.slice a xs.length cap)) (fun i' _ => xs.length - (intOf i').toNat)
      case atStart => exact ⟨0, Nat.zero_le _, rfl, HA.out, hb, hB⟩
      case round =>
        clear hb hB
        obtain ⟨l, hl, rfl, hall, hb, hB⟩ := hrel
        obtain ⟨wp, rfl⟩ : ∃ wp : World, wp = wr := ⟨_, rfl⟩
        have ⟨zr, cr, dr⟩ := hB
        have HL := Lib.hid hall
        clear hall
        by_cases hlt2 : l < xs.length
        · have l1 : (l : Int) < (xs.length : Int) := by omega
          go_wp2_with fail
          clear cr dr
          go_loopw [6] (fun i' wr => ∃ m : Nat, m ≤ xs.length ∧ i' = .int .i64 m ∧ NoRef xs k l m 0 ∧ Below w.heap.size w wr ∧ Box2 wr w.heap.size (.int .i64 (xs.length : Int)) (.slice a xs.length cap)) (fun i' _ => xs.length - (intOf i').toNat)
          case atStart => exact ⟨0, Nat.zero_le _, rfl, HL.out, hb, hB⟩
          case round =>
            clear hb hB
            obtain ⟨m, hm, rfl, hall, hb, hB⟩ := hrel
            obtain ⟨wq, rfl⟩ : ∃ wq : World, wq = wr := ⟨_, rfl⟩
            have ⟨zr, cr, dr⟩ := hB
            have HM := Lib.hid hall
            clear hall
            by_cases hlt3 : m < xs.length
            · have m1 : (m : Int) < (xs.length : Int) := by omega
              go_wp2_with fail
              clear cr dr
              go_loopw [7] (fun i' wr => ∃ o : Nat, o ≤ xs.length ∧ i' = .int .i64 o ∧ NoRef xs k l m o ∧ Below w.heap.size w wr ∧ Box2 wr w.heap.size (.int .i64 (xs.length : Int)) (.slice a xs.length cap)) (fun i' _ => xs.length - (intOf i').toNat)
              case atStart => exact ⟨0, Nat.zero_le _, rfl, HM.out, hb, hB⟩
              case round =>
                clear hb hB
                obtain ⟨o, ho, rfl, hall, hb, hB⟩ := hrel
                have ⟨zr, cr, dr⟩ := hB
                have HO := Lib.hid hall
                clear hall
                by_cases hlt4 : o < xs.length
                · have o1 : (o : Int) < (xs.length : Int) := by omega
                  cases hs : refB xs k l m o
                  · have hfin := Lib.hid (HO.out.d hs)
                    have HS := Lib.hid hs
                    clear hs
                    go_wp2_with fail
                    refine (ivRefuses_any _ _ _ _ _ _ _ _ _ (hx.below hb) hp hlt hlt3).mono ?_
                    rw [HS.out]
                    rintro e w3 ⟨rfl, hb3⟩
                    have B3 := hB.below hb3
                    have bw3 := hb.trans (hb3.mono hb.size)
                    go_wp2_with fail
                    go_roundw
                    case rel => exact ⟨o + 1, by omega, by go_num, hfin.out, bw3, B3⟩
                    case measure => simp [intOf]; omega
                  · have ht := HO.out.yes hlt hlt2 hlt3 hlt4 hs
                    have HT := Lib.hid ht
                    have HS := Lib.hid hs
                    clear hs ht
                    go_wp2_with fail
                    refine (ivRefuses_any _ _ _ _ _ _ _ _ _ (hx.below hb) hp hlt hlt3).mono ?_
                    rw [HS.out]
                    rintro e w3 ⟨rfl, hb3⟩
                    have bw3 := hb.trans (hb3.mono hb.size)
                    go_wp2_with fail
                    refine bodyPost_ret (v := .tuple #[.slice (some ⟨w3.heap.size, 0, none⟩) 4 4, .bool true]) (by simp [results, Try.results111, go_sem]) rfl ?_
                    refine ⟨some ⟨w3.heap.size, 0, none⟩, 4, by rw [HT.out]; rfl, ?_, bw3.alloc bw3.size _⟩
                    rw [HT.out]
                    exact (OwnI.new w3 [(k : Int), (l : Int), (m : Int), (o : Int)] (by simp)).mono bw3.size
                · obtain rfl : o = xs.length := by omega
                  have hfin := Lib.hid HO.out.c
                  go_wp2_with fail
                  go_roundw
                  case rel => exact ⟨m + 1, by omega, by go_num, hfin.out, hb, hB⟩
                  case measure => simp [intOf]; omega
            · obtain rfl : m = xs.length := by omega
              have hfin := Lib.hid HM.out.b
              go_wp2_with fail
              go_roundw
              case rel => exact ⟨l + 1, by omega, by go_num, hfin.out, hb, hB⟩
              case measure => simp [intOf]; omega
        · obtain rfl : l = xs.length := by omega
          have hfin := Lib.hid HL.out.a
          go_wp2_with fail
          go_roundw
          case rel => exact ⟨k + 1, by omega, by go_num, hfin.out, hb, hB⟩
          case measure => simp [intOf]; omega
    · obtain rfl : k = xs.length := by omega
      have ht := HA.out.no
      have HT := Lib.hid ht
      clear ht
      go_wp2_with fail
      refine bodyPost_ret (v := .tuple #[.slice none 0 0, .bool false]) (by simp [results, Try.results111, go_sem]) rfl ?_
      exact ⟨none, 0, by rw [HT.out]; rfl, by rw [HT.out]; exact OwnI.nil _ _, hb⟩

theorem ivIs_any (n : Int) (a : Option Addr) (xs : List Int) (cap : Nat) (w : World) (hx : Rd w a xs) (hp : RelP n xs) :
    Calls Try.prog 87 #[.agg #[.int .i64 n, .slice a xs.length cap]] w fun e w' => e = .returned (.bool (!(twoF xs).isSome)) ∧ Below w.heap.size w w' := by
  have hx1 := hx.alloc (.cells #[.int .i64 n, .slice a xs.length cap] 28)
  go_enter Try.func87, Try.ntmps87
  go_wp2_with fail
  refine (ivTwoTwo_any _ _ _ _ _ hx1 hp).mono ?_
  rintro e w2 ⟨a2, cap2, rfl, ho2, hb2⟩
  clear ho2
  go_wp2_with fail
  go_ret
  exact ⟨ret_bool (by cases twoF xs <;> rfl), Below.trans (by repeat (first | exact Below.refl _ _ | assumption | refine Below.alloc ?_ (by first | exact Nat.le_refl _ | (simp only [World.size_alloc, World.size_setCell, World.size_drew]; omega) | omega) _ | refine Below.setCell ?_ (by first | exact Nat.le_refl _ | (simp only [World.size_alloc, World.size_setCell, World.size_drew]; omega) | omega) _ | refine Below.drew ?_)) (hb2.mono (by first | (simp only [World.size_alloc, World.size_setCell, World.size_drew]; omega) | omega))⟩

theorem orList_any (s : Int) (w : World) (h0 : 0 ≤ s) (h1 : s < 1024) :
    Calls Try.prog 81 #[.int .i64 s] w fun e w' => ∃ a cap, e = .returned (.slice a (elems s.toNat).length cap) ∧ OwnI w' w.heap.size (.slice a (elems s.toNat).length cap) (elems s.toNat) ∧ Below w.heap.size w w' := by
  obtain ⟨S, rfl⟩ := Int.eq_ofNat_of_zero_le h0
  have hS : S < 1024 := by omega
  obtain ⟨i0, hi, hz0, hz1, hz2⟩ := info_parts infoInt
  have hsh : ∀ k : Nat, (S : Int) / 2 ^ min k 64 = ((S >>> k : Nat) : Int) := fun k => shr_nat S k (by omega)
  have HSH := Lib.hid hsh
  clear hsh
  go_enter Try.func81, Try.ntmps81
  go_wp2_with fail
  go_loopw [3, 4] (fun v i wr => ∃ k : Nat, k ≤ 10 ∧ i = .int .i64 k ∧ wr.ownsRow w.heap.size 3 1 v (elemsTo S k).length ((elemsTo S k).map (Value.int .i64)) ∧ Below w.heap.size w wr) (fun _ i _ => 10 - (intOf i).toNat)
  case atStart => exact ⟨0, by omega, rfl, by simpa [elemsTo] using World.ownsRow_nil _ _ _ _, Below.refl _ _⟩
  case round =>
    obtain ⟨k, hk, rfl, hown, hb⟩ := hrel
    have hln := elemsTo_len S k
    have hsz := hb.size
    have hq := HSH.out k
    rw [show min k 64 = k from by omega] at hq
    by_cases hz : S >>> k = 0
    · have ht : ¬ (0 : Int) < (S : Int) / 2 ^ k := by rw [hq, hz]; omega
      have HZ := Lib.hid hz
      clear hq hz
      go_wp2_with fail
      go_ret
      have e := elems_at HZ.out hk
      rw [e] at hown
      obtain ⟨a, cap, rfl⟩ := OwnI.form hown
      exact ⟨a, cap, rfl, hown, hb⟩
    · have ht : (0 : Int) < (S : Int) / 2 ^ k := by rw [hq]; exact Int.natCast_pos.2 (Nat.pos_of_ne_zero hz)
      have hk9 : k < 10 := by
        rcases Nat.lt_or_ge k 10 with h | h
        · exact h
        · obtain rfl : k = 10 := by omega
          exact absurd (by rw [Nat.shiftRight_eq_div_pow]; exact Nat.div_eq_of_lt (by omega)) hz
      clear hq hz
      have hhas : hasB (S : Int) (k : Int) = S.testBit k := rfl
      cases hin : S.testBit k
      · rw [hin] at hhas
        go_wp2_with (go_at_call 80; refine (orHas_any _ _ _ (by omega) (by omega) (by omega)).mono ?_; rintro e w' ⟨rfl, rfl⟩)
        go_roundw
        case rel => exact ⟨k + 1, by omega, by go_num, by simpa [elemsTo, hin] using hown, hb⟩
        case measure => simp [intOf]; omega
      · rw [hin] at hhas
        go_wp2_with (first | (go_at_call 80; refine (orHas_any _ _ _ (by omega) (by omega) (by omega)).mono ?_; rintro e w' ⟨rfl, rfl⟩) | (at_builtin; refine wpList_append_own _ rfl _ _ 22 rfl w.heap.size 3 i0 (.int .i64 0) 1 8 Try.underlying22 hi hz0 hz1 hz2 rfl (by decide) _ _ _ rfl (hown.alloc _) ⟨wr.heap.size, 0, none⟩ 1 1 [.int .i64 k] rfl rfl ?c1 ?c2 ?c3 ?c4 ?c5 ?_))
        case c1 =>
          intro j u hj
          match j, hj with
          | 0, hj => simp at hj; subst hj; simp [Addr.add]
        case c2 => intro u hu; simp at hu; subst hu; rfl
        case c3 => unfold maxLen; omega
        case c4 => omega
        case c5 => simp; omega
        · intro v' w1 hown' hgrow _
          have hlt := World.ownsRow.lt hown
          have hb1 : Below w.heap.size w w1 := (hb.alloc hsz _).grown hgrow (by simp; omega) (fun b e => (hlt b e).1)
          have HO := Lib.hid hown'
          clear hown' hgrow hown
          go_wp2_with fail
          go_roundw
          case rel => exact ⟨k + 1, by omega, by go_num, by simpa [elemsTo, hin] using HO.out, hb1⟩
          case measure => simp [intOf]; omega

theorem l1In_any (n lo hi : Int) (w : World) :
    Calls Try.prog 70 #[.int .i64 n, .int .i64 lo, .int .i64 hi] w fun e w' => e = .returned (.bool (inB n lo hi)) ∧ w = w' := by
  go_enter Try.func70, Try.ntmps70
  go_wp2
  all_goals (go_ret; exact ⟨ret_bool (by simp [inB]; try omega), rfl⟩)
theorem l1In_is {n lo hi : Int} {b : Bool} (h : inB n lo hi = b) (w : World) (m : Nat) :
    Calls Try.prog 70 #[.int .i64 n, .int .i64 lo, .int .i64 hi] (w.drewN m) fun e w' => e = .returned (.bool b) ∧ ∃ k, w' = w.drewN k :=
  Calls.quiet_of_same ((l1In_any n lo hi (w.drewN m)).mono (fun e w' hh => ⟨by rw [← h]; exact hh.1, hh.2.symm⟩))

theorem l1All_any (a : Option Addr) (xs : List Int) (cap : Nat) (lo hi : Int) (w : World) (hx : Rd w a xs) :
    Calls Try.prog 108 #[.slice a xs.length cap, .int .i64 lo, .int .i64 hi] w fun e w' => e = .returned (.bool (allB xs lo hi)) ∧ w = w' := by
  have hlen := hx.len
  go_enter Try.func108, Try.ntmps108
  go_wp2_with fail
  go_loop [11] (fun i => ∃ k : Nat, k ≤ xs.length ∧ i = .int .i64 k ∧ allB (xs.take k) lo hi = true) (fun i => xs.length - (intOf i).toNat)
  case atStart => exact ⟨0, Nat.zero_le _, rfl, rfl⟩
  case round =>
    obtain ⟨k, hk, rfl, hall⟩ := hrel
    by_cases hlt : k < xs.length
    · obtain ⟨b, off, rfl, hbl, hc⟩ := hx.cell k hlt
      cases hin : inB (nth xs k) lo hi
      · have hf := Lib.hid (allB_false hlt hin)
        go_wp2_with (go_at_call 70; refine (l1In_any _ _ _ _).mono ?_; rintro e w' ⟨rfl, rfl⟩)
        go_ret
        exact ⟨ret_bool hf.out.symm, rfl⟩
      · go_wp2_with (go_at_call 70; refine (l1In_any _ _ _ _).mono ?_; rintro e w' ⟨rfl, rfl⟩)
        go_round
        case rel => exact ⟨k + 1, by omega, by go_num, by rw [allB_take _ _ _ _ hlt, hall, hin]; rfl⟩
        case measure => simp [intOf]; omega
    · go_wp2_with fail
      go_ret
      exact ⟨ret_bool (by rw [← hall, List.take_of_length_le (by omega)]), rfl⟩
theorem l1All_is {a : Option Addr} {xs : List Int} {cap : Nat} {lo hi : Int} {b : Bool} {w : World} (hx : Rd w a xs) (h : allB xs lo hi = b) (m : Nat) :
    Calls Try.prog 108 #[.slice a xs.length cap, .int .i64 lo, .int .i64 hi] (w.drewN m) fun e w' => e = .returned (.bool b) ∧ ∃ k, w' = w.drewN k :=
  Calls.quiet_of_same ((l1All_any a xs cap lo hi (w.drewN m) (hx.below (Joins.below_draws _ _ _))).mono (fun e w' hh => ⟨by rw [← h]; exact hh.1, hh.2.symm⟩))

theorem orRelation_any (n : Int) (a : Option Addr) (xs : List Int) (cap : Nat) (w : World) (hx : Rd w a xs) :
    Calls Try.prog 79 #[.agg #[.int .i64 n, .slice a xs.length cap]] w fun e w' => e = .returned (.bool (relB n xs)) ∧ Below w.heap.size w w' := by
  have hx1 := hx.alloc (.cells #[.int .i64 n, .slice a xs.length cap] 28)
  cases h1 : inB n 0 10
  · have HR : Hid (relB n xs = false) := by simp [Hid, relB, h1]
    go_enter Try.func79, Try.ntmps79
    go_wp2_with fail
    go_quiet ((go_at_call 70; exact l1In_is h1 _ _))
    go_wp2_with fail
    go_ret
    exact ⟨ret_bool HR.out.symm, (Below.refl _ _).alloc (Nat.le_refl _) _ |>.trans (Joins.below_draws _ _ _)⟩
  · have hn := inB_iff.1 h1
    cases h2 : ((xs.length : Int) == n)
    · have HR : Hid (relB n xs = false) := by
        have : ¬ (xs.length : Int) = n := by simpa using h2
        simp [Hid, relB, h1, this]
      go_enter Try.func79, Try.ntmps79
      go_wp2_with fail
      go_quiet ((go_at_call 70; exact l1In_is h1 _ _))
      go_wp2_with fail
      go_ret
      exact ⟨ret_bool HR.out.symm, (Below.refl _ _).alloc (Nat.le_refl _) _ |>.trans (Joins.below_draws _ _ _)⟩
    · cases h3 : allB xs 0 (wrap64 (wrap64 (2 ^ n.toNat) - 1))
      all_goals
        have HR : Hid (relB n xs = allB xs 0 (wrap64 (wrap64 (2 ^ n.toNat) - 1))) := by
          have : (xs.length : Int) = n := by simpa using h2
          simp only [Hid, relB, h1, this, full_eq hn.1 hn.2]
          simp
        have H3 := Lib.hid h3
        clear h3
        go_enter Try.func79, Try.ntmps79
        go_wp2_with fail
        go_quiet ((first | (go_at_call 70; exact l1In_is h1 _ _) | (go_at_call 108; exact l1All_is hx1 H3.out _)))
        go_wp2_with fail
        go_ret
        exact ⟨ret_bool (by rw [HR.out, H3.out]), (Below.refl _ _).alloc (Nat.le_refl _) _ |>.trans (Joins.below_draws _ _ _)⟩

theorem elem_at {n : Int} {xs : List Int} (hp : RelP n xs) {k : Nat} (hk : k < xs.length) {m : Nat} (hm : m < (elems (nth xs k).toNat).length) :
    ∃ i : Nat, i < xs.length ∧ hasB (nth xs k) i = true ∧ nth (elems (nth xs k).toNat) m = (i : Int) := by
  have h1 := hp.small k hk
  have h0 := hp.pos k hk
  obtain ⟨i, hb, e⟩ := (mem_elems (by omega)).1 (nth_mem hm)
  exact ⟨i, has_lt hp hk hb, hb, e⟩
theorem at_elem {n : Int} {xs : List Int} (hp : RelP n xs) {k : Nat} (hk : k < xs.length) {j : Nat} (h : hasB (nth xs k) j = true) :
    ∃ m, m < (elems (nth xs k).toNat).length ∧ nth (elems (nth xs k).toNat) m = (j : Int) := by
  have h1 := hp.small k hk
  have h0 := hp.pos k hk
  have : (j : Int) ∈ elems (nth xs k).toNat := (mem_elems (by omega)).2 ⟨j, h, rfl⟩
  obtain ⟨m, hm, e⟩ := mem_nth this
  exact ⟨m, hm, e⟩
theorem orGood_any (n : Int) (a : Option Addr) (xs : List Int) (cap : Nat) (w : World) (hx : Rd w a xs) :
    Calls Try.prog 51 #[.agg #[.int .i64 n, .slice a xs.length cap]] w fun e w' => e = .returned (.bool (ordB n xs)) ∧ Below w.heap.size w w' := by
  have hx1 := hx.alloc (.cells #[.int .i64 n, .slice a xs.length cap] 28)
  have hlen := hx.len
  cases hr : relB n xs
  · have HR : Hid (ordB n xs = false) := by simp [Hid, ordB, hr]
    go_enter Try.func51, Try.ntmps51
    go_wp2_with fail
    refine (orRelation_any _ _ _ _ _ hx1).mono ?_
    rintro e w1 ⟨rfl, hb1⟩
    go_wp2_with fail
    go_ret
    exact ⟨ret_bool HR.out.symm, Below.trans (by repeat (first | exact Below.refl _ _ | assumption | refine Below.alloc ?_ (by first | exact Nat.le_refl _ | (simp only [World.size_alloc, World.size_setCell, World.size_drew]; omega) | omega) _ | refine Below.setCell ?_ (by first | exact Nat.le_refl _ | (simp only [World.size_alloc, World.size_setCell, World.size_drew]; omega) | omega) _ | refine Below.drew ?_)) (hb1.mono (by first | (simp only [World.size_alloc, World.size_setCell, World.size_drew]; omega) | omega))⟩
  · have hp := relB_p hr
    go_enter Try.func51, Try.ntmps51
    go_wp2_with fail
    refine (orRelation_any _ _ _ _ _ hx1).mono ?_
    rintro e w1 ⟨rfl, hb1⟩
    have B1 := (Box2.new w _ _ _).below hb1
    have ⟨z1, c1, d1⟩ := B1
    have bw1 : Below w.heap.size w w1 := Below.trans (by repeat (first | exact Below.refl _ _ | assumption | refine Below.alloc ?_ (by first | exact Nat.le_refl _ | (simp only [World.size_alloc, World.size_setCell, World.size_drew]; omega) | omega) _ | refine Below.setCell ?_ (by first | exact Nat.le_refl _ | (simp only [World.size_alloc, World.size_setCell, World.size_drew]; omega) | omega) _ | refine Below.drew ?_)) (hb1.mono (by first | (simp only [World.size_alloc, World.size_setCell, World.size_drew]; omega) | omega))
    have HR := Lib.hid hr
    clear hb1
    go_wp2_with fail
    clear hr
    go_loopw [13] (fun i wr => ∃ k : Nat, k ≤ xs.length ∧ i = .int .i64 k ∧ (∀ j, j < k → okAtB xs j = true) ∧ Below w1.heap.size w1 wr) (fun i _ => xs.length - (intOf i).toNat)
    case atStart => exact ⟨0, Nat.zero_le _, rfl, fun j hj => by omega, Below.refl _ _⟩
    case round =>
      obtain ⟨k, hk, rfl, hall, hb⟩ := hrel
      have Br := B1.below hb
      have ⟨zr, cr, dr⟩ := Br
      have bwr := bw1.trans (hb.mono bw1.size)
      have HA := Lib.hid hall
      clear hall c1 d1
      by_cases hlt : k < xs.length
      · obtain ⟨b, off, rfl, hbl, hc⟩ := (hx.below bwr).cell k hlt
        have hpk := hp.pos k hlt
        have hsk := hp.small k hlt
        have hsk' : nth xs k ≤ 9223372036854775807 := by omega
        cases hin : hasB (nth xs k) k
        · go_wp2_with fail
          refine (orHas_any _ _ _ hpk hsk' (by omega)).mono ?_
          rintro e w' ⟨rfl, rfl⟩
          go_wp2_with fail
          refine (orList_any _ _ hpk hsk).mono ?_
          rintro e w2 ⟨a2, cap2, rfl, ho2, hb2⟩
          have ⟨z2, c2, d2⟩ := Br.below hb2
          have bw2 := bwr.trans (hb2.mono bwr.size)
          have hx2 := hx.below bw2
          have hr2 := ho2.rd
          have bk2 := hb.trans (hb2.mono hb.size)
          have hel := elems_len (nth xs k).toNat
          have HI := Lib.hid hin
          clear hin cr dr hc
          obtain ⟨es, hes⟩ : ∃ es, es = elems (nth xs k).toNat := ⟨_, rfl⟩
          rw [← hes] at ho2 hr2 hel
          have HES := Lib.hid hes
          rw [← hes]
          clear hes ho2 hb2
          go_wp2_with fail
          go_loop [24] (fun i => ∃ j : Nat, j ≤ es.length ∧ i = .int .i64 j ∧ (∀ m, m < j → sub (nth xs (nth es m).toNat).toNat (nth xs k).toNat = 0)) (fun i => es.length - (intOf i).toNat)
          case atStart => exact ⟨0, Nat.zero_le _, rfl, fun m hm => by omega⟩
          case round =>
            obtain ⟨j, hj, rfl, hin2⟩ := hrel
            have HIN := Lib.hid hin2
            clear hin2
            by_cases hjl : j < es.length
            · obtain ⟨b2, off2, rfl, hbl2, hc2⟩ := hr2.cell j hjl
              obtain ⟨i, hil, hib, hie⟩ : ∃ i : Nat, i < xs.length ∧ hasB (nth xs k) i = true ∧ nth es j = (i : Int) := by
                have := elem_at hp hlt (m := j) (by rw [← HES.out]; exact hjl)
                rw [← HES.out] at this
                exact this
              obtain ⟨b3, off3, e3, hbl3, hc3⟩ := hx2.cell i hil
              simp only [Option.some.injEq, Addr.mk.injEq, and_true] at e3
              obtain ⟨rfl, rfl⟩ := e3
              have hpi := hp.pos i hil
              have hsi := hp.small i hil
              have hsub := sub_i (a := nth xs i) (b := nth xs k) hpi (by omega) hpk (by omega)
              have HB := Lib.hid hib
              have HE := Lib.hid hie
              rw [hie] at hc2
              clear hib hie
              by_cases hz : sub (nth xs i).toNat (nth xs k).toNat = 0
              · have hne : (bits BinOp.andNot IntKind.i64 (nth xs i) (nth xs k) != 0) = false := by rw [hsub, hz]; rfl
                have HZ := Lib.hid hz
                clear hz hsub
                go_wp2_with fail
                go_round
                case rel =>
                  refine ⟨j + 1, by omega, by go_num, fun m hm => ?_⟩
                  by_cases e : m = j
                  · rw [e, HE.out, Int.toNat_natCast]; exact HZ.out
                  · exact HIN.out m (by omega)
                case measure => simp [intOf]; omega
              · have hne : (bits BinOp.andNot IntKind.i64 (nth xs i) (nth xs k) != 0) = true := by rw [hsub]; simp; omega
                have HN := Lib.hid (ordB_no (n := n) hlt (okAtB_sub hil HB.out hz))
                clear hz hsub
                go_wp2_with fail
                go_ret
                exact ⟨ret_bool HN.out.symm, bw2⟩
            · obtain rfl : j = es.length := by omega
              have hok : okAtB xs k = true := by
                rw [okAtB_iff]
                refine ⟨HI.out, fun j hj hbj => ?_⟩
                obtain ⟨m, hm, e⟩ := at_elem hp hlt hbj
                rw [← HES.out] at hm e
                have := HIN.out m hm
                rwa [e, Int.toNat_natCast] at this
              have HK := Lib.hid hok
              clear hok
              go_wp2_with fail
              go_roundw
              case rel =>
                refine ⟨k + 1, by omega, by go_num, fun j hj => ?_, bk2⟩
                by_cases e : j = k
                · rw [e]; exact HK.out
                · exact HA.out j (by omega)
              case measure => simp [intOf]; omega
        · have HN := Lib.hid (ordB_no (n := n) hlt (okAtB_has hin))
          go_wp2_with fail
          refine (orHas_any _ _ _ hpk hsk' (by omega)).mono ?_
          rintro e w' ⟨rfl, rfl⟩
          go_wp2_with fail
          go_ret
          exact ⟨ret_bool HN.out.symm, bwr⟩
      · obtain rfl : k = xs.length := by omega
        go_wp2_with fail
        go_ret
        exact ⟨ret_bool (ordB_iff.2 ⟨HR.out, HA.out⟩).symm, bwr⟩

theorem ivGoodOrder_any (n : Int) (a : Option Addr) (xs : List Int) (cap : Nat) (w : World) (hx : Rd w a xs) :
    Calls Try.prog 57 #[.agg #[.int .i64 n, .slice a xs.length cap]] w fun e w' => e = .returned (.bool (isIv n xs)) ∧ Below w.heap.size w w' := by
  have hx1 := hx.alloc (.cells #[.int .i64 n, .slice a xs.length cap] 28)
  cases hr : ordB n xs
  · have H1 : Hid (isIv n xs = false) := by simp [Hid, isIv, hr]
    go_enter Try.func57, Try.ntmps57
    go_wp2_with fail
    refine (orGood_any _ _ _ _ _ hx1).mono ?_
    rw [hr]
    rintro e w1 ⟨rfl, hb1⟩
    have bw1 : Below w.heap.size w w1 := Below.trans (by repeat (first | exact Below.refl _ _ | assumption | refine Below.alloc ?_ (by first | exact Nat.le_refl _ | (simp only [World.size_alloc, World.size_setCell, World.size_drew]; omega) | omega) _ | refine Below.setCell ?_ (by first | exact Nat.le_refl _ | (simp only [World.size_alloc, World.size_setCell, World.size_drew]; omega) | omega) _ | refine Below.drew ?_)) (hb1.mono (by first | (simp only [World.size_alloc, World.size_setCell, World.size_drew]; omega) | omega))
    go_wp2_with fail
    go_ret
    exact ⟨ret_bool H1.out.symm, bw1⟩
  · have hp := ord_rel hr
    have H1 : Hid (isIv n xs = !(twoF xs).isSome) := by simp [Hid, isIv, hr]
    go_enter Try.func57, Try.ntmps57
    go_wp2_with fail
    refine (orGood_any _ _ _ _ _ hx1).mono ?_
    rw [hr]
    rintro e w1 ⟨rfl, hb1⟩
    have A1 : Box2 w1 w.heap.size (.int .i64 n) (.slice a xs.length cap) := (Box2.new w _ _ _).below hb1
    have bw1 : Below w.heap.size w w1 := Below.trans (by repeat (first | exact Below.refl _ _ | assumption | refine Below.alloc ?_ (by first | exact Nat.le_refl _ | (simp only [World.size_alloc, World.size_setCell, World.size_drew]; omega) | omega) _ | refine Below.setCell ?_ (by first | exact Nat.le_refl _ | (simp only [World.size_alloc, World.size_setCell, World.size_drew]; omega) | omega) _ | refine Below.drew ?_)) (hb1.mono (by first | (simp only [World.size_alloc, World.size_setCell, World.size_drew]; omega) | omega))
    have ⟨zA, cA, dA⟩ := A1
    clear hb1 hr
    go_wp2_with fail
    refine (ivIs_any _ _ _ _ _ (hx.below bw1) hp).mono ?_
    rintro e w2 ⟨rfl, hb2⟩
    go_wp2_with fail
    go_ret
    exact ⟨ret_bool (by rw [H1.out]; cases twoF xs <;> rfl), bw1.trans (hb2.mono bw1.size)⟩

set_option maxRecDepth 100000 in
set_option maxHeartbeats 1000000 in
theorem sAlike_any (n : Int) (a : Option Addr) (xs : List Int) (cap : Nat) (m : Int) (b : Option Addr) (ys : List Int) (capb : Nat) (w : World) (hn : -9223372036854775808 ≤ n ∧ n ≤ 9223372036854775807) (hx : Rd w a xs) (hm : -9223372036854775808 ≤ m ∧ m ≤ 9223372036854775807) (hy : Rd w b ys) :
    Calls Try.prog 34 #[.agg #[.int .i64 n, .slice a xs.length cap], .agg #[.int .i64 m, .slice b ys.length capb]] w fun e w' => e = .returned (.tuple #[.bool (alkV n xs m ys), .bool (alkB n xs m ys)]) ∧ Below w.heap.size w w' := by
  have hb0 : Below w.heap.size w ((w.alloc (.cells #[.int .i64 n, .slice a xs.length cap] 28)).alloc (.cells #[.int .i64 m, .slice b ys.length capb] 28)) := (by repeat (first | exact Below.refl _ _ | assumption | refine Below.alloc ?_ (by first | exact Nat.le_refl _ | (simp only [World.size_alloc, World.size_setCell, World.size_drew]; omega) | omega) _ | refine Below.setCell ?_ (by first | exact Nat.le_refl _ | (simp only [World.size_alloc, World.size_setCell, World.size_drew]; omega) | omega) _ | refine Below.drew ?_))
  have hA := (Box2.new w (.int .i64 n) (.slice a xs.length cap) 28).below ((Below.refl _ _).alloc (Nat.le_refl _) (.cells #[.int .i64 m, .slice b ys.length capb] 28))
  have hB := Box2.new (w.alloc (.cells #[.int .i64 n, .slice a xs.length cap] 28)) (.int .i64 m) (.slice b ys.length capb) 28
  rw [World.size_alloc] at hB
  cases h1 : isIv n xs
  · have H1 := Lib.hid h1
    have H2 : Hid (alkB n xs m ys = false) := by simp [Hid, alkB, h1]
    have H3 : Hid (alkV n xs m ys = false) := by rw [Hid, alkV, H2.out]; rfl
    clear h1
    go_enter Try.func34, Try.ntmps34
    go_wp2_with fail
    refine (ivGoodOrder_any _ _ _ _ _ (hx.below hb0)).mono ?_
    rintro e w1 ⟨rfl, hb⟩
    rw [H1.out]
    have b1 : Below w.heap.size w w1 := hb0.trans (hb.mono (by simp; omega))
    go_wp2_with fail
    go_ret2
    exact ⟨ret_bb H3.out.symm H2.out.symm, b1⟩
  · cases h2 : isIv m ys
    · have H1 := Lib.hid h1
      have HI := Lib.hid h2
      have H2 : Hid (alkB n xs m ys = false) := by simp [Hid, alkB, h2]
      have H3 : Hid (alkV n xs m ys = false) := by rw [Hid, alkV, H2.out]; rfl
      clear h1 h2
      go_enter Try.func34, Try.ntmps34
      go_wp2_with fail
      refine (ivGoodOrder_any _ _ _ _ _ (hx.below hb0)).mono ?_
      rintro e w1 ⟨rfl, hb⟩
      rw [H1.out]
      have b1 : Below w.heap.size w w1 := hb0.trans (hb.mono (by simp; omega))
      have hB1 := hB.below hb
      have ⟨zB, cB, dB⟩ := hB1
      clear hb hA hB
      go_wp2_with fail
      refine (ivGoodOrder_any _ _ _ _ _ (hy.below b1)).mono ?_
      rintro e w2 ⟨rfl, hb⟩
      rw [HI.out]
      have b2 := b1.trans (hb.mono b1.size)
      go_wp2_with fail
      go_ret2
      exact ⟨ret_bb H3.out.symm H2.out.symm, b2⟩
    · have H1 := Lib.hid h1
      have HI := Lib.hid h2
      have H2 : Hid (alkB n xs m ys = true) := by simp [Hid, alkB, h1, h2]
      have H3 : Hid (alkV n xs m ys = eqR (moL n xs) (moL m ys)) := by rw [Hid, alkV, H2.out]; rfl
      have E1 : Hid (moL n xs = sqM (cntE xs xs.length) (sets xs).length (sets xs).length) := by rw [Hid, moL, if_pos h1]
      have E2 : Hid (moL m ys = sqM (cntE ys ys.length) (sets ys).length (sets ys).length) := by rw [Hid, moL, if_pos h2]
      have HX := Lib.hid hx
      have HY := Lib.hid hy
      have HC1 := Lib.hid (fun W (h : Rd W a xs) => maOfOrd_any n a xs cap W h h1)
      have HC2 := Lib.hid (fun W (h : Rd W b ys) => maOfOrd_any m b ys capb W h h2)
      rw [← E1.out, show (sets xs).length = (moL n xs).length by rw [E1.out, sqM_len]] at HC1
      rw [← E2.out, show (sets ys).length = (moL m ys).length by rw [E2.out, sqM_len]] at HC2
      obtain ⟨P, hP⟩ : ∃ P, P = moL n xs := ⟨_, rfl⟩
      obtain ⟨Q, hQ⟩ : ∃ Q, Q = moL m ys := ⟨_, rfl⟩
      rw [← hP] at HC1 H3
      rw [← hQ] at HC2 H3
      clear h1 h2 E1 E2 hP hQ
      go_enter Try.func34, Try.ntmps34
      go_wp2_with fail
      refine (ivGoodOrder_any _ _ _ _ _ (hx.below hb0)).mono ?_
      rintro e w1 ⟨rfl, hb⟩
      rw [H1.out]
      have b1 : Below w.heap.size w w1 := hb0.trans (hb.mono (by simp; omega))
      have hA1 := hA.below hb
      have hB1 := hB.below hb
      have ⟨zB, cB, dB⟩ := hB1
      clear hb hA hB
      go_wp2_with fail
      refine (ivGoodOrder_any _ _ _ _ _ (hy.below b1)).mono ?_
      rintro e w2 ⟨rfl, hb⟩
      rw [HI.out]
      have b2 := b1.trans (hb.mono b1.size)
      have hA2 := hA1.below hb
      have hB2 := hB1.below hb
      have ⟨zA2, cA2, dA2⟩ := hA2
      have ⟨zB2, cB2, dB2⟩ := hB2
      clear hb zB cB dB hA1 hB1 b1 hx hy
      go_wp2_with fail
      go_region_held3 (fun w' => w'.cell? ⟨w.heap.size, 0, none⟩ = some (.int .i64 n) ∧ w'.cell? ⟨w.heap.size, 1, none⟩ = some (.slice a xs.length cap) ∧ w'.cell? ⟨w.heap.size + 1, 0, none⟩ = some (.int .i64 m) ∧ w'.cell? ⟨w.heap.size + 1, 1, none⟩ = some (.slice b ys.length capb))
        (first | exact ⟨Pc.2.1, Pc.2.2, Qc.2.1, Qc.2.2⟩ | exact ⟨Pb.2.1, Pb.2.2, Qb.2.1, Qb.2.2⟩ | exact ⟨Pa.2.1, Pa.2.2, Qa.2.1, Qa.2.2⟩ | go_keep)
        (first | (have _g := htb; go_at_call 64; refine (maSame_any _ _ P Q _ _ _ ((roa.o.rd).below hbb0) (rob.o.rd)).mono ?_; rintro e wc ⟨rfl, hbc⟩; have htc := htb.trans (hbc.mono htb.size); have Pc := hA2.below htc; have Qc := hB2.below htc) | (have _g := hta; go_at_call 58; refine (HC2.out _ (HY.out.below (b2.trans (hta.mono b2.size)))).mono ?_; rintro e wb ⟨a2, c2, l2, rfl, rob, hbb⟩; have hbb0 := hbb; have htb := hta.trans (hbb.mono hta.size); have Pb := hA2.below htb; have Qb := hB2.below htb) | (go_at_call 58; refine (HC1.out _ (HX.out.below (b2.trans ((Joins.below_draws _ _ _).mono b2.size)))).mono ?_; rintro e wa ⟨a1, c1, l1, rfl, roa, hba⟩; have hta := (Joins.below_draws _ _ _).trans hba; have Pa := hA2.below hta; have Qa := hB2.below hta))
      all_goals
        go_wp2_with fail
        go_ret2
        exact ⟨ret_bb H3.out.symm H2.out.symm, b2.trans (htc.mono b2.size)⟩

/-- a list in order, as the library sorts it -/
def srt (xs : List Int) : List Int := xs.mergeSort fun x y => decide (x ≤ y)
theorem srt_len (xs : List Int) : (srt xs).length = xs.length := List.length_mergeSort xs
theorem srt_mem (xs : List Int) (x : Int) : x ∈ srt xs ↔ x ∈ xs := List.mem_mergeSort
theorem srt_le (xs : List Int) : (srt xs).Pairwise (· ≤ ·) := by
  have h := List.pairwise_mergeSort (le := fun (x y : Int) => decide (x ≤ y)) (fun a b c h1 h2 => by simp only [decide_eq_true_eq] at *; omega) (fun a b => by simp only [Bool.or_eq_true, decide_eq_true_eq]; omega) xs
  exact h.imp (fun h => by simpa using h)



def Sh_lays189_ren : Go.Shelf.Ren := ⟨fun | 189 => 117 | 125 => 138 | 257 => 137 | 128 => 160 | 129 => 161 | 294 => 151 | 295 => 152 | 296 => 153 | 297 => 154 | 298 => 155 | 299 => 156 | 216 => 157 | 300 => 158 | 301 => 159 | 328 => 169 | 329 => 170 | 330 => 171 | 331 => 172 | 332 => 173 | 215 => 174 | 343 => 177 | n => n, fun | 28 => 22 | 3 => 3 | 46 => 126 | 0 => 0 | 51 => 143 | 53 => 145 | 4 => 4 | 183 => 138 | 182 => 137 | 131 => 35 | 5 => 5 | 9 => 9 | 218 => 148 | 222 => 152 | 228 => 156 | 229 => 157 | n => n, fun | n => n⟩
theorem Sh_lays189 : Go.Proofs.Lays.n189 Try.prog Sh_lays189_ren := {
  mixed := by kernel_rfl
  f125 := Try.func138.trans (congrArg some (by kernel_rfl))
  f128 := Try.func160.trans (congrArg some (by kernel_rfl))
  f129 := Try.func161.trans (congrArg some (by kernel_rfl))
  f189 := Try.func117.trans (congrArg some (by kernel_rfl))
  f215 := Try.func174.trans (congrArg some (by kernel_rfl))
  f216 := Try.func157.trans (congrArg some (by kernel_rfl))
  f257 := Try.func137.trans (congrArg some (by kernel_rfl))
  f294 := Try.func151.trans (congrArg some (by kernel_rfl))
  f295 := Try.func152.trans (congrArg some (by kernel_rfl))
  f296 := Try.func153.trans (congrArg some (by kernel_rfl))
  f297 := Try.func154.trans (congrArg some (by kernel_rfl))
  f298 := Try.func155.trans (congrArg some (by kernel_rfl))
  f299 := Try.func156.trans (congrArg some (by kernel_rfl))
  f300 := Try.func158.trans (congrArg some (by kernel_rfl))
  f301 := Try.func159.trans (congrArg some (by kernel_rfl))
  f328 := Try.func169.trans (congrArg some (by kernel_rfl))
  f329 := Try.func170.trans (congrArg some (by kernel_rfl))
  f330 := Try.func171.trans (congrArg some (by kernel_rfl))
  f331 := Try.func172.trans (congrArg some (by kernel_rfl))
  f332 := Try.func173.trans (congrArg some (by kernel_rfl))
  f343 := Try.func177.trans (congrArg some (by kernel_rfl))
  t0 := Try.underlying0
  a0 := Try.isAgg0
  z0 := Try.sizeOf0
  v0 := Try.zeroValue0
  t3 := Try.underlying3
  a3 := Try.isAgg3
  z3 := Try.sizeOf3
  v3 := Try.zeroValue3
  t4 := Try.underlying4
  a4 := Try.isAgg4
  z4 := Try.sizeOf4
  v4 := Try.zeroValue4
  t5 := Try.underlying5
  a5 := Try.isAgg5
  z5 := Try.sizeOf5
  v5 := Try.zeroValue5
  t9 := Try.underlying9
  a9 := Try.isAgg9
  z9 := Try.sizeOf9
  v9 := Try.zeroValue9
  t28 := Try.underlying22
  a28 := Try.isAgg22
  z28 := Try.sizeOf22
  v28 := Try.zeroValue22
  t46 := Try.underlying126
  a46 := Try.isAgg126
  z46 := Try.sizeOf126
  v46 := Try.zeroValue126
  t51 := Try.underlying143
  a51 := Try.isAgg143
  z51 := Try.sizeOf143
  v51 := Try.zeroValue143
  t53 := Try.underlying145
  a53 := Try.isAgg145
  z53 := Try.sizeOf145
  v53 := Try.zeroValue145
  t131 := Try.underlying35
  a131 := Try.isAgg35
  z131 := Try.sizeOf35
  v131 := Try.zeroValue35
  t182 := Try.underlying137
  a182 := Try.isAgg137
  z182 := Try.sizeOf137
  v182 := Try.zeroValue137
  t183 := Try.underlying138
  a183 := Try.isAgg138
  z183 := Try.sizeOf138
  v183 := Try.zeroValue138
  t218 := Try.underlying148
  a218 := Try.isAgg148
  z218 := Try.sizeOf148
  v218 := Try.zeroValue148
  t222 := Try.underlying152
  a222 := Try.isAgg152
  z222 := Try.sizeOf152
  v222 := Try.zeroValue152
  t228 := Try.underlying156
  a228 := Try.isAgg156
  z228 := Try.sizeOf156
  v228 := Try.zeroValue156
  t229 := Try.underlying157
  a229 := Try.isAgg157
  z229 := Try.sizeOf157
  v229 := Try.zeroValue157 }

open Go.Sort Go.RowKit in
theorem Sh_slices_Sort_int (blk off cap : Nat) (zs : List Int) (w : World) (hH : Holds (Value.int .i64) w blk off zs.toArray) (hblk : blk < w.heap.size) (hsz : zs.length < 4611686018427387904) :
    Calls Try.prog 117 #[.slice (some ⟨blk, off, none⟩) zs.length cap] w fun e w' =>
      e = .returned (.tuple #[]) ∧ ∃ n os, w' = grow (putRow (Value.int .i64) (Sort.ahead w n) blk off (zs.mergeSort fun x y => decide (x ≤ y)).toArray) os := Any.slices_Sort_int Sh_lays189 blk off cap zs w hH hblk hsz

open Go.RowKit Go.Sort in
theorem Sh_slices_Sort_int_none (p : Option Addr) (cap : Nat) (w : World) :
    Calls Try.prog 117 #[.slice p 0 cap] w fun e w' => e = .returned (.tuple #[]) ∧ w' = w := Any.slices_Sort_int_none Sh_lays189 p cap w

theorem sortOwn (a : Option Addr) (cap : Nat) (xs : List Int) (B : Nat) (w : World) (hl : xs.length ≤ 1048576) (ho : OwnI w B (.slice a xs.length cap) xs) :
    Calls Try.prog 117 #[.slice a xs.length cap] w fun e w' => e = .returned (.tuple #[]) ∧ OwnI w' B (.slice a (srt xs).length cap) (srt xs) ∧ w.grownBy w' (Value.slice a xs.length cap).ownBlock := by
  rcases ho.2 with ⟨e0, h0⟩ | ⟨g, cap', cur, e0, hbase, hb, h1, h2, h3, h4⟩
  · have hx : xs = [] := List.length_eq_zero_iff.1 h0
    subst hx
    refine (Sh_slices_Sort_int_none a cap w).mono ?_
    rintro e w' ⟨rfl, rfl⟩
    exact ⟨rfl, by rw [show srt [] = [] from by simp [srt]]; exact ho, World.grownBy.refl _ _⟩
  · simp only [Value.slice.injEq] at e0
    obtain ⟨rfl, -, rfl⟩ := e0
    have hh := Go.holds_of_blockI (ss := xs) hb (by simpa using h4)
    refine (Sh_slices_Sort_int g 0 cap xs w hh ((Array.getElem?_eq_some_iff.1 hb).1) (by omega)).mono ?_
    rintro e w' ⟨rfl, nn, os, rfl⟩
    refine ⟨rfl, ?_, Go.grownBy_sortedI _⟩
    have := Go.ownsRow_sortedI (n := nn) (os := os) (ss := xs) (ts := srt xs) (srt_len xs) hbase hb h1 h2 h3
    unfold OwnI
    rw [srt_len]
    exact this

theorem ownsRow_cut {w : World} {B g n cap m : Nat} {t : TypeId} {xs : List Value} (h : w.ownsRow B t 1 (.slice (some ⟨g, 0, none⟩) n cap) n xs) (hm : m ≤ n) : w.ownsRow B t 1 (.slice (some ⟨g, 0, none⟩) m cap) m (xs.take m) := by
  have hl := h.1
  rcases h.2 with ⟨e0, _⟩ | ⟨g', cap', cur, e0, hbase, hb, h1, h2, h3, h4⟩
  · cases e0
  · simp only [Value.slice.injEq, Option.some.injEq, Addr.mk.injEq, and_true] at e0
    obtain ⟨rfl, -, rfl⟩ := e0
    refine ⟨by rw [List.length_take]; omega, .inr ⟨g, cap, cur, rfl, hbase, hb, by omega, h2, h3, ?_⟩⟩
    rw [← h4, List.take_take]
    congr 1
    omega

def Sh_laysNm220_ren : Go.Shelf.Ren := ⟨fun | 20 => 118 | n => n, fun | 22 => 22 | 3 => 3 | 4 => 4 | 0 => 0 | n => n, fun | n => n⟩
theorem Sh_laysNm220 : Go.Proofs.Lays2.n20 Try.prog Sh_laysNm220_ren := {
  mixed := by kernel_rfl
  f20 := Try.func118.trans (congrArg some (by kernel_rfl))
  t0 := Try.underlying0
  a0 := Try.isAgg0
  z0 := Try.sizeOf0
  v0 := Try.zeroValue0
  t3 := Try.underlying3
  a3 := Try.isAgg3
  z3 := Try.sizeOf3
  v3 := Try.zeroValue3
  t4 := Try.underlying4
  a4 := Try.isAgg4
  z4 := Try.sizeOf4
  v4 := Try.zeroValue4
  t22 := Try.underlying22
  a22 := Try.isAgg22
  z22 := Try.sizeOf22
  v22 := Try.zeroValue22
  i3 := by kernel_rfl }

open Go.RowKit Go.Lib Go.Sort in
theorem Sh_slices_Compact_int (blk off cap : Nat) (zs : List Int) (w : World) (hH : Holds (Value.int .i64) w blk off zs.toArray) (hsz : zs.length ≤ 9223372036854775807) (hcap : zs.length ≤ cap) :
    Calls Try.prog 118 #[.slice (some ⟨blk, off, none⟩) zs.length cap] w fun e w' => e = .returned (.slice (some ⟨blk, off, none⟩) (Lib.compact zs).length cap) ∧ ∃ q, w' = putRow (Value.int .i64) (Sort.ahead w q) blk off (Lib.compact zs ++ List.replicate (zs.length - (Lib.compact zs).length) 0).toArray := Any.slices_Compact_int Sh_laysNm220 blk off cap zs w hH hsz hcap

open Go.RowKit Go.Lib Go.Sort in
theorem Sh_slices_Compact_int_empty (a : Option Addr) (cap : Nat) (w : World) :
    Calls Try.prog 118 #[.slice a 0 cap] w fun e w' => e = .returned (.slice a 0 cap) ∧ w' = w := Any.slices_Compact_int_empty Sh_laysNm220 a cap w

theorem compactOwn (a : Option Addr) (cap : Nat) (xs : List Int) (B : Nat) (w : World) (ho : OwnI w B (.slice a xs.length cap) xs) :
    Calls Try.prog 118 #[.slice a xs.length cap] w fun e w' => e = .returned (.slice a (Go.Lib.compact xs).length cap) ∧ OwnI w' B (.slice a (Go.Lib.compact xs).length cap) (Go.Lib.compact xs) ∧ w.grownBy w' (Value.slice a xs.length cap).ownBlock := by
  rcases ho.2 with ⟨e0, h0⟩ | ⟨g, cap', cur, e0, hbase, hb, h1, h2, h3, h4⟩
  · have hx : xs = [] := List.length_eq_zero_iff.1 h0
    subst hx
    refine (Sh_slices_Compact_int_empty a cap w).mono ?_
    rintro e w' ⟨rfl, rfl⟩
    exact ⟨rfl, ho, World.grownBy.refl _ _⟩
  · simp only [Value.slice.injEq] at e0
    obtain ⟨rfl, -, rfl⟩ := e0
    have hh := Go.holds_of_blockI (ss := xs) hb (by simpa using h4)
    have hcl := Go.Lib.compact_length_le xs
    refine (Sh_slices_Compact_int g 0 cap xs w hh (by unfold maxLen at h2; omega) h1).mono ?_
    rintro e w' ⟨rfl, nn, rfl⟩
    have hg := Go.grownBy_sortedI (w := w) (g := g) (n := nn) (os := #[]) (Go.Lib.compact xs ++ List.replicate (xs.length - (Go.Lib.compact xs).length) 0).toArray
    have ho := Go.ownsRow_sortedI (n := nn) (os := #[]) (ss := xs) (ts := Go.Lib.compact xs ++ List.replicate (xs.length - (Go.Lib.compact xs).length) 0) (by rw [List.length_append, List.length_replicate]; omega) hbase hb h1 h2 h3
    rw [Go.Sort.grow_empty] at hg ho
    refine ⟨rfl, ?_, hg⟩
    have hc := ownsRow_cut ho hcl
    have e1 : (List.map (Value.int .i64) (Go.Lib.compact xs ++ List.replicate (xs.length - (Go.Lib.compact xs).length) 0)).take (Go.Lib.compact xs).length = (Go.Lib.compact xs).map (Value.int .i64) := by
      rw [← List.map_take, List.take_left']
      rfl
    rw [e1] at hc
    exact hc

theorem bang (l : List Int) {j : Nat} (h : j < l.length) : l.toArray[j]! = nth l j := by
  rw [getElem!_pos l.toArray j (by simpa using h), nth_get l j h]; simp
theorem cu_inc {l : List Int} (h : l.Pairwise (· ≤ ·)) : ∀ m, m ≤ l.length → Inc (Go.Lib.compactUpTo l.toArray m) ∧ (∀ x, x ∈ Go.Lib.compactUpTo l.toArray m ↔ ∃ j, j < m ∧ nth l j = x)
  | 0, _ => ⟨List.Pairwise.nil, fun x => by simp [Go.Lib.compactUpTo]⟩
  | m+1, hm => by
    obtain ⟨h1, h2⟩ := cu_inc h m (by omega)
    have hle : ∀ i j, i ≤ j → j < l.length → nth l i ≤ nth l j := fun i j hij hj => by
      rw [nth_get _ _ (by omega), nth_get _ _ hj]
      rcases Nat.lt_or_eq_of_le hij with h3 | rfl
      · exact (List.pairwise_iff_getElem.1 h) i j (by omega) hj h3
      · exact Int.le_refl _
    rw [Go.Lib.compactUpTo_succ, bang l (by omega)]
    cases hk : Go.Lib.keeps l.toArray m
    · rw [if_neg (by simp), List.append_nil]
      refine ⟨h1, fun x => ?_⟩
      rw [h2]
      constructor
      · rintro ⟨j, hj, e⟩
        exact ⟨j, by omega, e⟩
      · rintro ⟨j, hj, e⟩
        by_cases e2 : j = m
        · subst e2
          simp only [Go.Lib.keeps, decide_eq_false_iff_not, not_or, ne_eq, Classical.not_not] at hk
          rw [bang l (by omega), bang l (by omega)] at hk
          exact ⟨j - 1, by omega, by rw [← hk.2]; exact e⟩
        · exact ⟨j, by omega, e⟩
    · rw [if_pos rfl]
      constructor
      · unfold Inc
        rw [List.pairwise_append]
        refine ⟨h1, List.pairwise_singleton _ _, fun a ha b hb => ?_⟩
        rw [List.mem_singleton] at hb
        subst hb
        obtain ⟨j, hj, rfl⟩ := (h2 a).1 ha
        simp only [Go.Lib.keeps, decide_eq_true_eq] at hk
        rw [bang l (by omega), bang l (by omega)] at hk
        have hne : nth l m ≠ nth l (m - 1) := hk.resolve_left (by omega)
        have := hle j (m - 1) (by omega) (by omega)
        have := hle (m - 1) m (by omega) (by omega)
        omega
      · intro x
        rw [List.mem_append, h2, List.mem_singleton]
        constructor
        · rintro (⟨j, hj, e⟩ | e)
          · exact ⟨j, by omega, e⟩
          · exact ⟨m, by omega, e.symm⟩
        · rintro ⟨j, hj, e⟩
          by_cases e2 : j = m
          · subst e2; exact .inr e.symm
          · exact .inl ⟨j, by omega, e⟩
theorem compact_inc {l : List Int} (h : l.Pairwise (· ≤ ·)) : Inc (Go.Lib.compact l) := (cu_inc h l.length (Nat.le_refl _)).1
theorem compact_mem {l : List Int} (h : l.Pairwise (· ≤ ·)) (x : Int) : x ∈ Go.Lib.compact l ↔ x ∈ l := by
  have := (cu_inc h l.length (Nat.le_refl _)).2 x
  rw [Go.Lib.compact, this]
  constructor
  · rintro ⟨j, hj, rfl⟩
    rw [nth_get _ _ hj]; exact List.getElem_mem _
  · intro hx
    obtain ⟨j, hj, rfl⟩ := List.getElem_of_mem hx
    exact ⟨j, hj, nth_get _ _ hj⟩

def belows (xs : List Int) (k : Nat) : List Int := fmap (fun i => ((belowTo xs i xs.length : Nat) : Int)) k
theorem belows_len (xs : List Int) (k : Nat) : (belows xs k).length = k := fmap_len _ _

theorem belowSet_any (n : Int) (a : Option Addr) (xs : List Int) (cap : Nat) (i : Int) (w : World) (hx : Rd w a xs) (hr : RelP n xs) (hi : 0 ≤ i) :
    Calls Try.prog 114 #[.agg #[.int .i64 n, .slice a xs.length cap], .int .i64 i] w fun e w' => e = .returned (.int .i64 (belowTo xs i xs.length)) ∧ Below w.heap.size w w' := by
  have hx1 := hx.alloc (.cells #[.int .i64 n, .slice a xs.length cap] 28)
  have hn : xs.length ≤ 10 := by have := hr.len; have := hr.n1; omega
  go_enter Try.func114, Try.ntmps114
  go_wp2_with fail
  go_loop [5, 11] (fun s i' => ∃ k : Nat, k ≤ xs.length ∧ i' = .int .i64 k ∧ s = .int .i64 (belowTo xs i k)) (fun _ i => xs.length - (intOf i).toNat)
  case atStart => exact ⟨0, Nat.zero_le _, rfl, rfl⟩
  case round =>
    obtain ⟨k, hk, rfl, rfl⟩ := hrel
    by_cases hlt : k < xs.length
    · obtain ⟨b, off, rfl, hbl, hc⟩ := hx1.cell k hlt
      obtain ⟨b', off', e', hbl', hc'⟩ := hx.cell k hlt
      simp only [Option.some.injEq, Addr.mk.injEq, and_true] at e'
      obtain ⟨rfl, rfl⟩ := e'
      have hpk := hr.pos k hlt
      have hsk : nth xs k ≤ 9223372036854775807 := by have := hr.small k hlt; omega
      have hbs := belowTo_small xs i (k := k) (by omega)
      have hor := Lib.hid (or_bit (b := belowTo xs i k) (k := k) (by omega) (by omega))
      clear hbs
      cases hin : hasB (nth xs k) i
      · go_wp2_with (go_at_call 83; refine (hasElement_any _ _ _ hpk hsk hi).mono ?_; rintro e w' ⟨rfl, rfl⟩)
        go_round
        case rel => exact ⟨k + 1, by omega, by go_num, by simp [belowTo, hin]⟩
        case measure => simp [intOf]; omega
      · go_wp2_with (go_at_call 83; refine (hasElement_any _ _ _ hpk hsk hi).mono ?_; rintro e w' ⟨rfl, rfl⟩)
        go_round
        case rel => exact ⟨k + 1, by omega, by go_num, val_int (by rw [hor.out]; simp [belowTo, hin])⟩
        case measure => simp [intOf]; omega
    · obtain rfl : k = xs.length := by omega
      go_wp2_with fail
      go_ret
      exact ⟨rfl, (by repeat (first | exact Below.refl _ _ | assumption | refine Below.alloc ?_ (by first | exact Nat.le_refl _ | (simp only [World.size_alloc, World.size_setCell, World.size_drew]; omega) | omega) _ | refine Below.setCell ?_ (by first | exact Nat.le_refl _ | (simp only [World.size_alloc, World.size_setCell, World.size_drew]; omega) | omega) _ | refine Below.drew ?_))⟩

theorem belowSets_any (n : Int) (a : Option Addr) (xs : List Int) (cap : Nat) (w : World) (hx : Rd w a xs) (hr : RelP n xs) :
    Calls Try.prog 116 #[.agg #[.int .i64 n, .slice a xs.length cap]] w fun e w' => ∃ a' cap', e = .returned (.slice a' xs.length cap') ∧ OwnI w' w.heap.size (.slice a' xs.length cap') (belows xs xs.length) ∧ Below w.heap.size w w' := by
  obtain ⟨i0, hi, hz0, hz1, hz2⟩ := info_parts infoInt
  have hn0 := hr.n0
  have hn1 := hr.n1
  obtain rfl : n = (xs.length : Int) := hr.len.symm
  have hn : xs.length ≤ 10 := by omega
  go_enter Try.func116, Try.ntmps116
  go_wp2_with (at_make; refine wpList_make_full _ rfl (.tmp 6) (.tmp 6) 22 rfl (w.heap.size + 1) 3 i0 (.int .i64 0) 1 Try.underlying22 hi hz0 hz1 .i64 .i64 _ _ xs.length rfl rfl rfl rfl (by rw [hz2]; omega) (by unfold maxLen; omega) (by simp) ?_; intro w1 hown hgrow)
  have hb0 : Below w.heap.size w w1 := ((Below.refl _ _).alloc (Nat.le_refl _) _).grown hgrow (by simp) (fun k h => by cases h)
  have hown0 := made_ints (fun i => ((belowTo xs i xs.length : Nat) : Int)) hown
  have B1 : Box2 w1 w.heap.size (.int .i64 (xs.length : Int)) (.slice a xs.length cap) := (Box2.new w _ _ _).kept hgrow (by simp)
  have hx1 : Rd w1 a xs := hx.below hb0
  clear hown hgrow
  simp only [World.size_alloc] at *
  have hz : w.heap.size + 1 < w1.heap.size := by
    have := (World.ownsRow.lt hown0 (w.heap.size + 1) rfl).2
    omega
  go_wp2_with fail
  go_loopw [10] (fun i wr => ∃ k : Nat, k ≤ xs.length ∧ i = .int .i64 k ∧ wr.ownsRow (w.heap.size + 1) 3 1 (.slice (some ⟨w.heap.size + 1, 0, none⟩) xs.length xs.length) xs.length ((fmap (fun i => ((belowTo xs i xs.length : Nat) : Int)) k ++ List.replicate (xs.length - k) (0:Int)).map (Value.int .i64)) ∧ Below w.heap.size w wr ∧ Box2 wr w.heap.size (.int .i64 (xs.length : Int)) (.slice a xs.length cap)) (fun i _ => xs.length - (intOf i).toNat)
  case atStart => exact ⟨0, Nat.zero_le _, rfl, hown0, hb0, B1⟩
  case round =>
    obtain ⟨k, hk, rfl, hown, hb, hB⟩ := hrel
    have ⟨zr, cr, dr⟩ := hB
    by_cases hlt : k < xs.length
    · go_wp2_with fail
      refine (belowSet_any _ _ _ _ _ _ (hx.below hb) hr (by omega)).mono ?_
      rintro e w2 ⟨rfl, hb2⟩
      have hown2 : w2.ownsRow (w.heap.size + 1) 3 1 (.slice (some ⟨w.heap.size + 1, 0, none⟩) xs.length xs.length) xs.length _ := World.ownsRow.kept hown (below_grown hb2 (Nat.le_refl _) none) (.inr (by simp [Value.ownBlock]))
      have hst := World.ownsRow.stored hown2 k (.int .i64 ((belowTo xs k xs.length : Nat) : Int))
      rw [fill_step (fun i => ((belowTo xs i xs.length : Nat) : Int)) xs.length k hlt] at hst
      have hcc := World.ownsRow.cellAt hown2 k (by omega)
      have hfr := World.ownsRow.frozenAt hown2 k
      have hcc' : ∃ u, w2.cell? ⟨w.heap.size + 1, k, none⟩ = some u := by
        rw [hcc]
        exact ⟨_, List.getElem?_eq_getElem (by simp [fmap_len]; omega)⟩
      obtain ⟨u, hu⟩ := hcc'
      have hB2 := hB.below hb2
      have hB3 := hB2.kept hst.2 (by simp)
      have hbw := hb.trans (hb2.mono hb.size)
      have Hst := Lib.hid hst
      clear hst hcc hown hown2 hb2
      go_wp2_with fail
      go_roundw
      case rel => exact ⟨k + 1, by omega, by go_num, Hst.out.1, hbw.setCell (by simp) _, hB3⟩
      case measure => simp [intOf]; omega
    · obtain rfl : k = xs.length := by omega
      go_wp2_with fail
      go_ret
      rw [fill_end] at hown
      refine ⟨_, _, rfl, OwnI.mono (B := w.heap.size + 1) ?_ (by omega), hb⟩
      show World.ownsRow _ _ _ _ _ _ _
      rw [belows_len]
      exact hown

theorem sets_eq (xs : List Int) : Go.Lib.compact (srt (belows xs xs.length)) = sets xs := by
  refine inc_ext (compact_inc (srt_le _)) (setsTo_inc xs _) (fun x => ?_)
  rw [compact_mem (srt_le _), srt_mem, sets, setsTo_mem]
  simp only [belows, fmap, List.mem_map, List.mem_range]
  constructor
  · rintro ⟨j, hj, e⟩
    exact ⟨j, hj, e.symm⟩
  · rintro ⟨j, hj, e⟩
    exact ⟨j, hj, e.symm⟩
theorem lowerSets_any (n : Int) (a : Option Addr) (xs : List Int) (cap : Nat) (w : World) (hx : Rd w a xs) (hr : RelP n xs) :
    Calls Try.prog 93 #[.agg #[.int .i64 n, .slice a xs.length cap]] w fun e w' => ∃ a' cap', e = .returned (.slice a' (sets xs).length cap') ∧ OwnI w' w.heap.size (.slice a' (sets xs).length cap') (sets xs) ∧ Below w.heap.size w w' := by
  have hx1 := hx.alloc (.cells #[.int .i64 n, .slice a xs.length cap] 28)
  have HE := Lib.hid (sets_eq xs)
  go_enter Try.func93, Try.ntmps93
  go_wp2_with fail
  refine (belowSets_any _ _ _ _ _ hx1 hr).mono ?_
  rintro e w1 ⟨a1, cap1, rfl, ho1, hb1⟩
  have bw1 : Below w.heap.size w w1 := Below.trans (by repeat (first | exact Below.refl _ _ | assumption | refine Below.alloc ?_ (by first | exact Nat.le_refl _ | (simp only [World.size_alloc, World.size_setCell, World.size_drew]; omega) | omega) _ | refine Below.setCell ?_ (by first | exact Nat.le_refl _ | (simp only [World.size_alloc, World.size_setCell, World.size_drew]; omega) | omega) _ | refine Below.drew ?_)) (hb1.mono (by first | (simp only [World.size_alloc, World.size_setCell, World.size_drew]; omega) | omega))
  have o1 : OwnI w1 w.heap.size (.slice a1 (belows xs xs.length).length cap1) (belows xs xs.length) := by
    rw [belows_len]; exact ho1.mono (by simp)
  clear hb1 ho1
  go_wp2_with fail
  have hs := sortOwn a1 cap1 (belows xs xs.length) w.heap.size w1 (by rw [belows_len]; have := hr.len; have := hr.n1; omega) o1
  rw [belows_len] at hs
  refine hs.mono ?_
  rintro e w2 ⟨rfl, ho2, hg2⟩
  clear hs
  have hU := o1.lt
  rw [belows_len] at hU
  have bw2 := bw1.trans (below_of_grown hg2 (fun b e => (hU b e).1) bw1.size)
  have hsl : (srt (belows xs xs.length)).length = xs.length := by rw [srt_len, belows_len]
  have HSL := Lib.hid hsl
  clear hg2 hU o1 hsl
  go_wp2_with fail
  have hc := compactOwn a1 cap1 (srt (belows xs xs.length)) w.heap.size w2 ho2
  rw [HSL.out, HE.out] at hc
  refine hc.mono ?_
  rintro e w3 ⟨rfl, ho3, hg3⟩
  clear hc
  have hU := ho2.lt
  rw [HSL.out] at hU
  have bw3 := bw2.trans (below_of_grown hg3 (fun b e => (hU b e).1) bw2.size)
  clear hg3 hU ho2
  go_wp2_with fail
  go_ret
  exact ⟨a1, cap1, rfl, ho3, bw3⟩

/-- one step of the closing: what is above k goes to i, if k is above i -/
def clStep (xs : List Int) (k i : Nat) : List Int := if hasB (nth xs i) k then xs.set i (((nth xs i).toNat ||| (nth xs k).toNat : Nat) : Int) else xs
def clRow (xs : List Int) (k : Nat) : Nat → List Int
  | 0 => xs
  | i+1 => clStep (clRow xs k i) k i
def clAll (xs : List Int) : Nat → List Int
  | 0 => xs
  | k+1 => clRow (clAll xs k) k xs.length
theorem clStep_len (xs : List Int) (k i : Nat) : (clStep xs k i).length = xs.length := by
  unfold clStep; split <;> simp
theorem clRow_len (xs : List Int) (k : Nat) : ∀ i, (clRow xs k i).length = xs.length
  | 0 => rfl
  | i+1 => by rw [clRow, clStep_len, clRow_len xs k i]
theorem clAll_len (xs : List Int) : ∀ k, (clAll xs k).length = xs.length
  | 0 => rfl
  | k+1 => by rw [clAll, clRow_len, clAll_len xs k]
/-- all numbers of a list are sets below 1024 -/
def Small (xs : List Int) : Prop := ∀ k, k < xs.length → 0 ≤ nth xs k ∧ nth xs k < 1024
theorem nth_set {xs : List Int} {i j : Nat} {x : Int} (hi : i < xs.length) : nth (xs.set i x) j = if i = j then x else nth xs j := by
  simp only [nth, List.getD_eq_getElem?_getD, List.getElem?_set]
  by_cases h : i = j
  · subst h; simp [hi]
  · simp [h]
theorem clStep_small {xs : List Int} (h : Small xs) {k i : Nat} (hk : k < xs.length) (hi : i < xs.length) : Small (clStep xs k i) := by
  unfold clStep
  split
  · intro j hj
    rw [nth_set hi]
    have h1 := h i hi
    have h2 := h k hk
    split
    · have : (nth xs i).toNat ||| (nth xs k).toNat < 2 ^ 10 := or_lt (by omega) (by omega)
      omega
    · exact h j (by simpa using hj)
  · exact h
theorem clRow_small {xs : List Int} (h : Small xs) {k : Nat} (hk : k < xs.length) : ∀ i, i ≤ xs.length → Small (clRow xs k i)
  | 0, _ => h
  | i+1, hi => clStep_small (clRow_small h hk i (by omega)) (by rw [clRow_len]; exact hk) (by rw [clRow_len]; omega)
theorem clAll_small {xs : List Int} (h : Small xs) : ∀ k, k ≤ xs.length → Small (clAll xs k)
  | 0, _ => h
  | k+1, hk => clRow_small (clAll_small h k (by omega)) (by rw [clAll_len]; omega) _ (by rw [clAll_len]; omega)
theorem RelP.sm {n : Int} {xs : List Int} (h : RelP n xs) : Small xs := fun k hk => ⟨h.pos k hk, h.small k hk⟩
theorem set_ints (xs : List Int) (i : Nat) (x : Int) : (xs.map (Value.int .i64)).set i (.int .i64 x) = (xs.set i x).map (Value.int .i64) := by
  rw [List.map_set]
/-- a store into an owned row -/
theorem OwnI.put {w : World} {B g n cap : Nat} {xs : List Int} (h : OwnI w B (.slice (some ⟨g, 0, none⟩) n cap) xs) (hn : n = xs.length) (i : Nat) (x : Int) :
    OwnI (w.setCell ⟨g, i, none⟩ (.int .i64 x)) B (.slice (some ⟨g, 0, none⟩) n cap) (xs.set i x) ∧ w.grownBy (w.setCell ⟨g, i, none⟩ (.int .i64 x)) (some g) := by
  subst hn
  have hst := World.ownsRow.stored h i (.int .i64 x)
  rw [set_ints] at hst
  refine ⟨?_, hst.2⟩
  unfold OwnI
  rw [List.length_set]
  exact hst.1
theorem OwnI.at' {w : World} {B g n cap : Nat} {xs : List Int} (h : OwnI w B (.slice (some ⟨g, 0, none⟩) n cap) xs) (hn : n = xs.length) {i : Nat} (hi : i < xs.length) :
    w.cell? ⟨g, i, none⟩ = some (.int .i64 (nth xs i)) ∧ w.frozen? ⟨g, i, none⟩ = false := by
  subst hn
  refine ⟨?_, World.ownsRow.frozenAt h i⟩
  rw [World.ownsRow.cellAt h i (by omega)]
  simp [nth, hi]
theorem OwnI.head {w : World} {B n cap : Nat} {a : Option Addr} {xs : List Int} (h : OwnI w B (.slice a n cap) xs) (hp : 0 < xs.length) : ∃ g, a = some ⟨g, 0, none⟩ ∧ B ≤ g ∧ g < w.heap.size := by
  rcases h.2 with ⟨e, h0⟩ | ⟨g, c, cur, e, hb, hg, _⟩
  · omega
  · simp only [Value.slice.injEq] at e
    exact ⟨g, e.1, hb, (Array.getElem?_eq_some_iff.1 hg).1⟩
def cloN (n : Int) (xs : List Int) : Int := if relB n xs then n else 0
def cloL (n : Int) (xs : List Int) : List Int := if relB n xs then clAll xs xs.length else []
theorem cloL_len (n : Int) (xs : List Int) : (cloL n xs).length ≤ 1048576 := by
  unfold cloL
  split
  · rename_i h
    have hp := relB_p h
    have := hp.len
    have := hp.n1
    rw [clAll_len]
    omega
  · simp

theorem iLevels_any (n : Int) (a : Option Addr) (xs : List Int) (cap : Nat) (w : World) (hn : -9223372036854775808 ≤ n ∧ n ≤ 9223372036854775807) (hx : Rd w a xs) :
    Calls Try.prog 91 #[.agg #[.int .i64 n, .slice a xs.length cap]] w fun e w' => ∃ a' cap', e = .returned (.tuple #[.slice a' (levL n xs).length cap', .bool (isIv n xs)]) ∧ OwnI w' w.heap.size (.slice a' (levL n xs).length cap') (levL n xs) ∧ Below w.heap.size w w' := by
  have hx1 := hx.alloc (.cells #[.int .i64 n, .slice a xs.length cap] 28)
  obtain ⟨i0, hi, hz0, hz1, hz2⟩ := info_parts infoInt
  cases hr : isIv n xs
  · have H1 : Hid (levL n xs = []) := by simp [Hid, levL, hr]
    have HR := Lib.hid hr
    clear hr
    go_enter Try.func91, Try.ntmps91
    go_wp2_with fail
    refine (iIsInterval_any _ _ _ _ _ hn hx1).mono ?_
    rw [HR.out]
    rintro e w1 ⟨rfl, hb1⟩
    have bw1 : Below w.heap.size w w1 := Below.trans (by repeat (first | exact Below.refl _ _ | assumption | refine Below.alloc ?_ (by first | exact Nat.le_refl _ | (simp only [World.size_alloc, World.size_setCell, World.size_drew]; omega) | omega) _ | refine Below.setCell ?_ (by first | exact Nat.le_refl _ | (simp only [World.size_alloc, World.size_setCell, World.size_drew]; omega) | omega) _ | refine Below.drew ?_)) (hb1.mono (by first | (simp only [World.size_alloc, World.size_setCell, World.size_drew]; omega) | omega))
    go_wp2_with fail
    refine bodyPost_ret (v := .tuple #[.slice none 0 0, .bool false]) (by simp [results, Try.results91, go_sem]) rfl ?_
    exact ⟨none, 0, by rw [H1.out]; rfl, by rw [H1.out]; exact OwnI.nil _ _, bw1⟩
  · have ho := isIv_ord hr
    have hp := ord_rel ho
    have H1 : Hid (levL n xs = levs xs xs.length) := by simp [Hid, levL, hr]
    have HR := Lib.hid hr
    have HO := Lib.hid ho
    obtain rfl : n = (xs.length : Int) := hp.len.symm
    have hl10 : xs.length ≤ 10 := by have := hp.n1; omega
    clear hr ho
    go_enter Try.func91, Try.ntmps91
    go_wp2_with fail
    refine (iIsInterval_any _ _ _ _ _ hn hx1).mono ?_
    rw [HR.out, HO.out]
    rintro e w1 ⟨rfl, hb1⟩
    have A1 : Box2 w1 w.heap.size (.int .i64 (xs.length : Int)) (.slice a xs.length cap) := (Box2.new w _ _ _).below hb1
    have bw1 : Below w.heap.size w w1 := Below.trans (by repeat (first | exact Below.refl _ _ | assumption | refine Below.alloc ?_ (by first | exact Nat.le_refl _ | (simp only [World.size_alloc, World.size_setCell, World.size_drew]; omega) | omega) _ | refine Below.setCell ?_ (by first | exact Nat.le_refl _ | (simp only [World.size_alloc, World.size_setCell, World.size_drew]; omega) | omega) _ | refine Below.drew ?_)) (hb1.mono (by first | (simp only [World.size_alloc, World.size_setCell, World.size_drew]; omega) | omega))
    have ⟨zA, cA, dA⟩ := A1
    clear hb1
    go_wp2_with fail
    refine (lowerSets_any _ _ _ _ _ (hx.below bw1) hp).mono ?_
    obtain ⟨ss, hss⟩ : ∃ ss, ss = sets xs := ⟨_, rfl⟩
    have hbd : ∀ m, m < ss.length → 0 ≤ nth ss m ∧ nth ss m < 1024 := fun m hm => by rw [hss] at hm ⊢; exact setsTo_bd hl10 hm
    have hlv : ∀ i, lv xs i = ((lvTo ss ((belowTo xs (i : Int) xs.length : Nat) : Int) ss.length : Nat) : Int) := fun i => by rw [hss]; rfl
    have hsl : ss.length ≤ xs.length := by rw [hss]; exact sets_len xs
    rw [← hss]
    have HBD := Lib.hid hbd
    have HLV := Lib.hid hlv
    clear hss hbd hlv
    rintro e w2 ⟨a2, cap2, rfl, ho2, hb2⟩
    have A2 := A1.below hb2
    have bw2 := bw1.trans (hb2.mono bw1.size)
    have hrs := ho2.rd
    have zw2 : w.heap.size + 1 ≤ w2.heap.size := by have := A2.1; omega
    clear zA cA dA A1 hb2
    have ⟨zA, cA, dA⟩ := A2
    go_wp2_with (at_make; refine wpList_make_full _ rfl (.tmp 22) (.tmp 22) 22 rfl w2.heap.size 3 i0 (.int .i64 0) 1 Try.underlying22 hi hz0 hz1 .i64 .i64 _ _ xs.length rfl rfl rfl rfl (by rw [hz2]; omega) (by unfold maxLen; omega) (Nat.le_refl _) ?_; intro w3 hown hgrow; have A3 := A2.kept hgrow (by simp))
    have hb3 : Below w2.heap.size w2 w3 := (Below.refl _ _).grown hgrow (Nat.le_refl _) (fun k h => by cases h)
    have hown0 := made_row (lv xs) hown
    clear hown hgrow cA dA zA A2
    go_wp2_with fail
    go_loopw [26] (fun i wr => ∃ k : Nat, k ≤ xs.length ∧ i = .int .i64 k ∧ OwnI wr w2.heap.size (.slice (some ⟨w2.heap.size, 0, none⟩) xs.length xs.length) (rowF (lv xs) xs.length k) ∧ Below w2.heap.size w2 wr ∧ Box2 wr w.heap.size (.int .i64 (xs.length : Int)) (.slice a xs.length cap)) (fun i _ => xs.length - (intOf i).toNat)
    case atStart => exact ⟨0, Nat.zero_le _, rfl, hown0, hb3, A3⟩
    case round =>
      obtain ⟨k, hk, rfl, hown, hb, hA⟩ := hrel
      have ⟨zB, cB, dB⟩ := hA
      by_cases hlt : k < xs.length
      · have k0 : (0 : Int) ≤ (k : Int) := by omega
        have k1 : (k : Int) < (xs.length : Int) := by omega
        have hbt := belowTo_small xs (k : Int) (k := xs.length) hl10
        go_wp2_with fail
        refine (belowSet_any _ _ _ _ _ _ (hx.below (bw2.trans (hb.mono bw2.size))) hp k0).mono ?_
        rintro e w4 ⟨rfl, hb4⟩
        have A4 := hA.below hb4
        have b4 := hb.trans (hb4.mono hb.size)
        have o4 := hown.below hb4 (Nat.le_refl _)
        clear cB dB hb4 hown
        go_wp2_with fail
        go_loopw [34] (fun i' wi => ∃ j : Nat, j ≤ ss.length ∧ i' = .int .i64 j ∧ OwnI wi w2.heap.size (.slice (some ⟨w2.heap.size, 0, none⟩) xs.length xs.length) ((rowF (lv xs) xs.length k).set k ((lvTo ss ((belowTo xs (k : Int) xs.length : Nat) : Int) j : Nat) : Int)) ∧ Below w2.heap.size w2 wi ∧ Box2 wi w.heap.size (.int .i64 (xs.length : Int)) (.slice a xs.length cap)) (fun i _ => ss.length - (intOf i).toNat)
        case atStart => exact ⟨0, Nat.zero_le _, rfl, by rw [lvTo, show (((0 : Nat) : Nat) : Int) = 0 from rfl, rowF_zero _ hlt]; exact o4, b4, A4⟩
        case round =>
          obtain ⟨j, hj, rfl, hown, hb, hA⟩ := hrel
          by_cases hjl : j < ss.length
          · obtain ⟨b2, off2, rfl, hbl2, hc2⟩ := (hrs.below hb).cell j hjl
            have ⟨s0, s1⟩ := HBD.out j hjl
            have hle := lvTo_le ss ((belowTo xs (k : Int) xs.length : Nat) : Int) j
            cases hne : (nth ss j != ((belowTo xs (k : Int) xs.length : Nat) : Int))
            · have HN := Lib.hid (lessB_ne hne)
              go_wp2_with fail
              go_roundw
              case rel => exact ⟨j + 1, by omega, by go_num, by simp only [lvTo, HN.out]; exact hown, hb, hA⟩
              case measure => simp [intOf]; omega
            · have hsb := lessB_sub s0 s1 hbt hne
              cases hlb : lessB (nth ss j) ((belowTo xs (k : Int) xs.length : Nat) : Int)
              · rw [hlb] at hsb
                have HN := Lib.hid hlb
                clear hlb
                go_wp2_with fail
                go_roundw
                case rel => exact ⟨j + 1, by omega, by go_num, by simp only [lvTo, HN.out]; exact hown, hb, hA⟩
                case measure => simp [intOf]; omega
              · rw [hlb] at hsb
                have HN := Lib.hid hlb
                clear hlb
                obtain ⟨row, hrow⟩ : ∃ row, row = (rowF (lv xs) xs.length k).set k ((lvTo ss ((belowTo xs (k : Int) xs.length : Nat) : Int) j : Nat) : Int) := ⟨_, rfl⟩
                have hrl : row.length = xs.length := by rw [hrow, List.length_set, rowF_len _ hk]
                have hrk : nth row k = ((lvTo ss ((belowTo xs (k : Int) xs.length : Nat) : Int) j : Nat) : Int) := by rw [hrow, nth_set (by rw [rowF_len _ hk]; exact hlt), if_pos rfl]
                have hrs : ∀ y, row.set k y = (rowF (lv xs) xs.length k).set k y := by intro y; rw [hrow, List.set_set]
                rw [← hrow] at hown
                have ⟨ci, fi⟩ := hown.at' hrl.symm (i := k) (by omega)
                rw [hrk] at ci
                have hput := hown.put hrl.symm k ((lvTo ss ((belowTo xs (k : Int) xs.length : Nat) : Int) j + 1 : Nat) : Int)
                rw [hrs] at hput
                have HP := Lib.hid hput
                clear hput hrow hrl hrk hrs hown
                go_wp2_with fail
                go_roundw
                case rel =>
                  refine ⟨j + 1, by omega, by go_num, ?_, hb.setCell (p := ⟨w2.heap.size, k, none⟩) (Nat.le_refl _) _, hA.set (p := ⟨w2.heap.size, k, none⟩) _ (show w.heap.size ≠ w2.heap.size by omega)⟩
                  have := HP.out.1
                  simp only [lvTo, HN.out, if_true]
                  exact this
                case measure => simp [intOf]; omega
          · obtain rfl : j = ss.length := by omega
            have hnext : (rowF (lv xs) xs.length k).set k ((lvTo ss ((belowTo xs (k : Int) xs.length : Nat) : Int) ss.length : Nat) : Int) = rowF (lv xs) xs.length (k + 1) := by
              rw [← rowF_set _ hlt, HLV.out]
            rw [hnext] at hown
            have HN := Lib.hid hown
            clear hnext hown
            go_wp2_with fail
            go_roundw
            case rel => exact ⟨k + 1, by omega, by go_num, HN.out, hb, hA⟩
            case measure => simp [intOf]; omega
      · obtain rfl : k = xs.length := by omega
        rw [rowF_end] at hown
        go_wp2_with fail
        refine bodyPost_ret (v := .tuple #[.slice (some ⟨w2.heap.size, 0, none⟩) xs.length xs.length, .bool true]) (by simp [results, Try.results91, go_sem]) rfl ?_
        exact ⟨some ⟨w2.heap.size, 0, none⟩, xs.length, by rw [H1.out, levs_len], by rw [H1.out, levs_len]; exact hown.mono bw2.size, bw2.trans (hb.mono bw2.size)⟩

/-- the row while the right end of k is being found -/
def endRow (xs : List Int) (k j : Nat) : List Int := ((rowP (lv xs) (rtE xs) xs.length k).set (k * 2) (lv xs k)).set (k * 2 + 1) (rtTo 0 xs k j)
theorem endRow_len (xs : List Int) {k : Nat} (j : Nat) (h : k ≤ xs.length) : (endRow xs k j).length = xs.length * 2 := by
  rw [endRow, List.length_set, List.length_set, rowP_len _ _ h]
theorem endRow_zero (xs : List Int) {k : Nat} (h : k < xs.length) : (rowP (lv xs) (rtE xs) xs.length k).set (k * 2) (lv xs k) = endRow xs k 0 := by
  have hl := rowP_len (lv xs) (rtE xs) (Nat.le_of_lt h)
  apply nth_ext' (by rw [endRow_len xs 0 (by omega), List.length_set, hl])
  intro i hi
  rw [List.length_set, hl] at hi
  rw [endRow, nth_set' (xs := (rowP (lv xs) (rtE xs) xs.length k).set (k * 2) (lv xs k)) (by rw [List.length_set, hl]; omega)]
  by_cases e : k * 2 + 1 = i
  · subst e
    rw [if_pos rfl, nth_set' (by rw [hl]; omega), if_neg (by omega), rowP_nth _ _ (by omega) hi, if_neg (by omega)]
    rfl
  · rw [if_neg e]
theorem endRow_end (xs : List Int) {k : Nat} (h : k < xs.length) : endRow xs k xs.length = rowP (lv xs) (rtE xs) xs.length (k + 1) := rowP_next _ _ h
theorem endRow_set (xs : List Int) (k j : Nat) (y : Int) : (endRow xs k j).set (k * 2 + 1) y = ((rowP (lv xs) (rtE xs) xs.length k).set (k * 2) (lv xs k)).set (k * 2 + 1) y := by
  rw [endRow, List.set_set]
theorem endRow_nth (xs : List Int) {k : Nat} (j : Nat) (h : k < xs.length) : nth (endRow xs k j) (k * 2 + 1) = rtTo 0 xs k j := by
  rw [endRow, nth_set' (by rw [List.length_set, rowP_len _ _ (by omega)]; omega), if_pos rfl]
theorem endRow_yes {xs : List Int} {k j : Nat} (h : hasB (nth xs k) j = true) : endRow xs k (j+1) = endRow xs k j := by
  rw [endRow, endRow, rtTo, if_pos h]
theorem iEnds_any (n : Int) (a : Option Addr) (xs : List Int) (cap : Nat) (w : World) (hn : -9223372036854775808 ≤ n ∧ n ≤ 9223372036854775807) (hx : Rd w a xs) :
    Calls Try.prog 59 #[.agg #[.int .i64 n, .slice a xs.length cap]] w (GotV w (endN n xs) (endL n xs) (isIv n xs)) := by
  have hx1 := hx.alloc (.cells #[.int .i64 n, .slice a xs.length cap] 28)
  obtain ⟨i0, hi, hz0, hz1, hz2⟩ := info_parts infoIv
  cases hr : isIv n xs
  · have H1 : Hid (endN n xs = 0) := by simp [Hid, endN, hr]
    have H2 : Hid (endL n xs = []) := by simp [Hid, endL, hr]
    have H3 : Hid (levL n xs = []) := by simp [Hid, levL, hr]
    have HR := Lib.hid hr
    clear hr
    go_enter Try.func59, Try.ntmps59
    go_wp2_with fail
    refine (iLevels_any _ _ _ _ _ hn hx1).mono ?_
    rw [HR.out, H3.out]
    rintro e w1 ⟨a1, cap1, rfl, ho1, hb1⟩
    have bw1 : Below w.heap.size w w1 := Below.trans (by repeat (first | exact Below.refl _ _ | assumption | refine Below.alloc ?_ (by first | exact Nat.le_refl _ | (simp only [World.size_alloc, World.size_setCell, World.size_drew]; omega) | omega) _ | refine Below.setCell ?_ (by first | exact Nat.le_refl _ | (simp only [World.size_alloc, World.size_setCell, World.size_drew]; omega) | omega) _ | refine Below.drew ?_)) (hb1.mono (by first | (simp only [World.size_alloc, World.size_setCell, World.size_drew]; omega) | omega))
    clear ho1
    go_wp2_with fail
    refine bodyPost_ret (v := .tuple #[.slice none 0 0, .bool false]) (by simp [results, Try.results59, go_sem]) rfl ?_
    exact ⟨none, 0, by rw [H1.out], by rw [H1.out, H2.out]; exact OwnV.nil _ _, bw1⟩
  · have ho := isIv_ord hr
    have hp := ord_rel ho
    have H1 : Hid (endN n xs = xs.length) := by simp [Hid, endN, hr]
    have H2 : Hid (endL n xs = endp xs xs.length) := by simp [Hid, endL, hr]
    have H3 : Hid (levL n xs = levs xs xs.length) := by simp [Hid, levL, hr]
    have HR := Lib.hid hr
    obtain rfl : n = (xs.length : Int) := hp.len.symm
    have hl10 : xs.length ≤ 10 := by have := hp.n1; omega
    clear hr ho
    go_enter Try.func59, Try.ntmps59
    go_wp2_with fail
    refine (iLevels_any _ _ _ _ _ hn hx1).mono ?_
    rw [HR.out, H3.out, levs_len]
    rintro e w1 ⟨a1, cap1, rfl, ho1, hb1⟩
    have A1 : Box2 w1 w.heap.size (.int .i64 (xs.length : Int)) (.slice a xs.length cap) := (Box2.new w _ _ _).below hb1
    have bw1 : Below w.heap.size w w1 := Below.trans (by repeat (first | exact Below.refl _ _ | assumption | refine Below.alloc ?_ (by first | exact Nat.le_refl _ | (simp only [World.size_alloc, World.size_setCell, World.size_drew]; omega) | omega) _ | refine Below.setCell ?_ (by first | exact Nat.le_refl _ | (simp only [World.size_alloc, World.size_setCell, World.size_drew]; omega) | omega) _ | refine Below.drew ?_)) (hb1.mono (by first | (simp only [World.size_alloc, World.size_setCell, World.size_drew]; omega) | omega))
    have ⟨zA, cA, dA⟩ := A1
    have hrl : Rd w1 a1 (levs xs xs.length) := ho1.rd
    clear hb1 ho1
    go_wp2_with (at_make; refine wpList_make_full _ rfl (.tmp 19) (.tmp 19) 65 rfl w1.heap.size 71 i0 (.agg #[.int .i64 0, .int .i64 0]) 2 Try.underlying65 hi hz0 hz1 .i64 .i64 _ _ xs.length rfl rfl rfl rfl (by rw [hz2]; omega) (by unfold maxLen; omega) (Nat.le_refl _) ?_; intro w2 hown hgrow; have A2 := A1.kept hgrow (by simp))
    have hb2 : Below w1.heap.size w1 w2 := (Below.refl _ _).grown hgrow (Nat.le_refl _) (fun k h => by cases h)
    have hown0 := made_rowP (lv xs) (rtE xs) hown
    clear hown hgrow cA dA
    go_wp2_with fail
    go_loopw [23] (fun i wr => ∃ k : Nat, k ≤ xs.length ∧ i = .int .i64 k ∧ OwnV wr w1.heap.size (.slice (some ⟨w1.heap.size, 0, none⟩) xs.length xs.length) xs.length (rowP (lv xs) (rtE xs) xs.length k) ∧ Below w1.heap.size w1 wr ∧ Box2 wr w.heap.size (.int .i64 (xs.length : Int)) (.slice a xs.length cap)) (fun i _ => xs.length - (intOf i).toNat)
    case atStart => exact ⟨0, Nat.zero_le _, rfl, hown0, hb2, A2⟩
    case round =>
      obtain ⟨k, hk, rfl, hown, hb, hA⟩ := hrel
      by_cases hlt : k < xs.length
      · obtain ⟨b, off, rfl, hbl, hck⟩ := (hrl.below hb).cell k (by rw [levs_len]; exact hlt)
        rw [levs_nth xs hlt] at hck
        have k0 : (0 : Int) ≤ (k : Int) := by omega
        have k1 : (k : Int) < (xs.length : Int) := by omega
        have hpl := rowP_len (lv xs) (rtE xs) hk
        have ⟨c1, f1⟩ := hown.at' (i := k * 2) (by omega)
        have p1 := hown.put (k * 2) (lv xs k)
        rw [endRow_zero xs hlt] at p1
        have P1 := Lib.hid p1.1
        have A3 := hA.kept p1.2 (by simp; omega)
        have b3 := hb.setCell (p := ⟨w1.heap.size, k * 2, none⟩) (Nat.le_refl _) (.int .i64 (lv xs k))
        clear hown p1 hpl
        go_wp2_with fail
        go_loopw [35] (fun i' wi => ∃ j : Nat, j ≤ xs.length ∧ i' = .int .i64 j ∧ OwnV wi w1.heap.size (.slice (some ⟨w1.heap.size, 0, none⟩) xs.length xs.length) xs.length (endRow xs k j) ∧ Below w1.heap.size w1 wi ∧ Box2 wi w.heap.size (.int .i64 (xs.length : Int)) (.slice a xs.length cap)) (fun i _ => xs.length - (intOf i).toNat)
        case atStart => exact ⟨0, Nat.zero_le _, rfl, P1.out, b3, A3⟩
        case round =>
          obtain ⟨j, hj, rfl, hown, hb, hA⟩ := hrel
          have ⟨zB, cB, dB⟩ := hA
          by_cases hjl : j < xs.length
          · obtain ⟨b2, off2, e2, hbl2, hcj⟩ := (hrl.below hb).cell j (by rw [levs_len]; exact hjl)
            simp only [Option.some.injEq, Addr.mk.injEq, and_true] at e2
            obtain ⟨rfl, rfl⟩ := e2
            rw [levs_nth xs hjl] at hcj
            obtain ⟨b3, off3, rfl, hbl3, hc3⟩ := (hx.below (bw1.trans (hb.mono bw1.size))).cell k hlt
            have s0 := hp.pos k hlt
            have s2 : nth xs k ≤ 9223372036854775807 := by have := hp.small k hlt; omega
            have j0 : (0 : Int) ≤ (j : Int) := by omega
            have j1 : (j : Int) < (xs.length : Int) := by omega
            cases hhas : hasB (nth xs k) j
            · have hel := endRow_len xs (k := k) j hk
              have ⟨c2, f2⟩ := hown.at' (i := k * 2 + 1) (by omega)
              rw [endRow_nth xs j hlt] at c2
              have ⟨r0, r1⟩ := rtTo_bd (st := 0) (xs := xs) (i := k) (k := j) (by omega) (by omega)
              have ⟨l0, l1⟩ := lv_bd xs j
              have p2 := hown.put (k * 2 + 1) (rtTo 0 xs k (j + 1))
              rw [endRow_set] at p2
              have P2 := Lib.hid p2.1
              have A4 := hA.kept p2.2 (by simp; omega)
              have b4 := hb.setCell (p := ⟨w1.heap.size, k * 2 + 1, none⟩) (Nat.le_refl _) (.int .i64 (rtTo 0 xs k (j + 1)))
              have hmx : max (rtTo 0 xs k j) (lv xs j) = rtTo 0 xs k (j + 1) := by rw [rtTo_no hhas, maxI]; split <;> omega
              have HM := Lib.hid hmx
              clear p2 hel hown hmx
              go_wp2_with (go_at_call 83; refine (hasElement_any _ _ _ (by assumption) (by assumption) (by assumption)).mono ?_; rintro e w' ⟨rfl, rfl⟩)
              go_roundw
              case rel => rw [HM.out]; exact ⟨j + 1, by omega, by go_num, P2.out, b4, A4⟩
              case measure => simp [intOf]; omega
            · have HE := Lib.hid (endRow_yes hhas)
              go_wp2_with (go_at_call 83; refine (hasElement_any _ _ _ (by assumption) (by assumption) (by assumption)).mono ?_; rintro e w' ⟨rfl, rfl⟩)
              go_roundw
              case rel => exact ⟨j + 1, by omega, by go_num, by rw [HE.out]; exact hown, hb, hA⟩
              case measure => simp [intOf]; omega
          · obtain rfl : j = xs.length := by omega
            rw [endRow_end xs hlt] at hown
            go_wp2_with fail
            go_roundw
            case rel => exact ⟨k + 1, by omega, by go_num, hown, hb, hA⟩
            case measure => simp [intOf]; omega
      · obtain rfl : k = xs.length := by omega
        rw [rowP_end] at hown
        go_wp2_with fail
        refine bodyPost_ret (v := .tuple #[.slice (some ⟨w1.heap.size, 0, none⟩) xs.length xs.length, .bool true]) (by simp [results, Try.results59, go_sem]) rfl ?_
        exact ⟨some ⟨w1.heap.size, 0, none⟩, xs.length, by rw [H1.out], by rw [H1.out, H2.out]; exact hown.mono bw1.size, bw1.trans (hb.mono bw1.size)⟩

theorem ret_ib' {a a' : Int} {b b' : Bool} (h1 : a = a') (h2 : b = b') : Ending.returned (.tuple #[.int .i64 a, .bool b]) = .returned (.tuple #[.int .i64 a', .bool b']) := by rw [h1, h2]

theorem iMagnitude_any (n : Int) (a : Option Addr) (xs : List Int) (cap : Nat) (w : World) (hn : -9223372036854775808 ≤ n ∧ n ≤ 9223372036854775807) (hx : Rd w a xs) :
    Calls Try.prog 60 #[.agg #[.int .i64 n, .slice a xs.length cap]] w fun e w' => e = .returned (.tuple #[.int .i64 (magF n xs), .bool (isIv n xs)]) ∧ Below w.heap.size w w' := by
  have hx1 := hx.alloc (.cells #[.int .i64 n, .slice a xs.length cap] 28)
  cases hr : isIv n xs
  · have H1 : Hid (magF n xs = 0) := by simp [Hid, magF, hr]
    have HR := Lib.hid hr
    clear hr
    go_enter Try.func60, Try.ntmps60
    go_wp2_with fail
    refine (iIsInterval_any _ _ _ _ _ hn hx1).mono ?_
    rw [HR.out]
    rintro e w1 ⟨rfl, hb1⟩
    have bw1 : Below w.heap.size w w1 := Below.trans (by repeat (first | exact Below.refl _ _ | assumption | refine Below.alloc ?_ (by first | exact Nat.le_refl _ | (simp only [World.size_alloc, World.size_setCell, World.size_drew]; omega) | omega) _ | refine Below.setCell ?_ (by first | exact Nat.le_refl _ | (simp only [World.size_alloc, World.size_setCell, World.size_drew]; omega) | omega) _ | refine Below.drew ?_)) (hb1.mono (by first | (simp only [World.size_alloc, World.size_setCell, World.size_drew]; omega) | omega))
    go_wp2_with fail
    go_ret2
    exact ⟨ret_ib' H1.out.symm rfl, bw1⟩
  · have ho := isIv_ord hr
    have hp := ord_rel ho
    have hsl := sets_len xs
    have hl10 : xs.length ≤ 10 := by have := hp.len; have := hp.n1; omega
    have H1 : Hid (magF n xs = ((sets xs).length : Int)) := by rw [Hid, magF, if_pos hr]
    have HR := Lib.hid hr
    have HO := Lib.hid ho
    clear hr ho
    go_enter Try.func60, Try.ntmps60
    go_wp2_with fail
    refine (iIsInterval_any _ _ _ _ _ hn hx1).mono ?_
    rw [HR.out, HO.out]
    rintro e w1 ⟨rfl, hb1⟩
    have A1 : Box2 w1 w.heap.size (.int .i64 n) (.slice a xs.length cap) := (Box2.new w _ _ _).below hb1
    have bw1 : Below w.heap.size w w1 := Below.trans (by repeat (first | exact Below.refl _ _ | assumption | refine Below.alloc ?_ (by first | exact Nat.le_refl _ | (simp only [World.size_alloc, World.size_setCell, World.size_drew]; omega) | omega) _ | refine Below.setCell ?_ (by first | exact Nat.le_refl _ | (simp only [World.size_alloc, World.size_setCell, World.size_drew]; omega) | omega) _ | refine Below.drew ?_)) (hb1.mono (by first | (simp only [World.size_alloc, World.size_setCell, World.size_drew]; omega) | omega))
    have ⟨zA, cA, dA⟩ := A1
    clear hb1
    go_wp2_with fail
    refine (lowerSets_any _ _ _ _ _ (hx.below bw1) hp).mono ?_
    rintro e w2 ⟨a2, cap2, rfl, ho2, hb2⟩
    clear ho2
    go_wp2_with fail
    go_ret2
    exact ⟨ret_ib' H1.out.symm rfl, bw1.trans (hb2.mono bw1.size)⟩

theorem infoIntS : (Try.prog.info? 22).map (fun i => (i.zero, i.size, i.bytes)) = some (some (.slice none 0 0), 1, 24) := by kernel_rfl
theorem sset_step (vl : List Value) (n k : Nat) (v z : Value) (hk : vl.length = k) (h : k < n) :
    (vl ++ List.replicate (n - k) z).set k v = (vl ++ [v]) ++ List.replicate (n - (k+1)) z := by
  rw [List.set_append_right _ _ (by omega), hk, Nat.sub_self, List.append_assoc]
  congr 1
  rw [show n - k = (n - (k+1)) + 1 by omega, List.replicate_succ, List.set_cons_zero]
  rfl
theorem valAt_app {vl : List Value} {v : Value} {k : Nat} (h : k < vl.length) : valAt (vl ++ [v]) k = valAt vl k := by
  simp [valAt, List.getElem?_append, h]
theorem valAt_last (vl : List Value) (v : Value) : valAt (vl ++ [v]) vl.length = v := by
  simp [valAt]

/-- a new row has been put into rows that have been made -/
theorem RowsP.putRow {w : World} {B : Nat} {v u : Value} {vl : List Value} {xss : List (List Int)} {r : List Int} (h : RowsP w B v vl xss) {k : Nat} (hk : k < xss.length) (hu : OwnI w B u r) (hne : ∀ c, u.ownBlock = some c → v.ownBlock ≠ some c ∧ ∀ j, j < xss.length → j ≠ k → (valAt vl j).ownBlock ≠ some c) :
    ∃ g c, v = .slice (some ⟨g, 0, none⟩) xss.length c ∧ B ≤ g ∧ g < w.heap.size ∧ (∃ z, w.cell? ⟨g, k, none⟩ = some z) ∧ w.frozen? ⟨g, k, none⟩ = false ∧ RowsP (w.setCell ⟨g, k, none⟩ u) B v (vl.set k u) (xss.set k r) := by
  have hl := h.o.vlen
  rcases h.o.own.2 with ⟨e, h0⟩ | ⟨g, cap3, cur, e, hb, hg, _⟩
  · omega
  · subst e
    have h1 := World.ownsRow.cellAt h.o.own k (by omega)
    have hgr := grown_set w ⟨g, k, none⟩ u
    have hval : ∀ j, valAt (vl.set k u) j = if j = k then u else valAt vl j := by
      intro j
      simp only [valAt, List.getD_eq_getElem?_getD, List.getElem?_set]
      by_cases e : k = j
      · subst e; simp [show k < vl.length by omega]
      · simp [e, Ne.symm e]
    have hrow : ∀ j, j < xss.length → rowL (xss.set k r) j = if j = k then r else rowL xss j := by
      intro j hj
      simp only [rowL, List.getD_eq_getElem?_getD, List.getElem?_set]
      by_cases e : k = j
      · subst e; simp [hk]
      · simp [e, Ne.symm e]
    refine ⟨g, cap3, rfl, hb, (Array.getElem?_eq_some_iff.1 hg).1, ⟨_, by rw [h1, valAt_get (by omega)]⟩, World.ownsRow.frozenAt h.o.own k, ⟨⟨?_, fun j hj => ?_, fun j hj c hc => ?_⟩, fun i j hij hj c hc => ?_⟩⟩
    · rw [List.length_set]
      exact (World.ownsRow.stored h.o.own k u).1
    · rw [List.length_set] at hj
      rw [hval, hrow j hj]
      by_cases e : j = k
      · rw [if_pos e, if_pos e]
        exact hu.kept hgr (own_nb (fun c h1 h2 => (hne c h1).1 (by rw [h2]; rfl)))
      · rw [if_neg e, if_neg e]
        exact (h.o.row j hj).kept hgr (own_nb (fun c h1 h2 => h.o.apart j hj c h1 (by rw [h2]; rfl)))
    · rw [List.length_set] at hj
      rw [hval] at hc
      by_cases e : j = k
      · rw [if_pos e] at hc; exact (hne c hc).1
      · rw [if_neg e] at hc; exact h.o.apart j hj c hc
    · rw [List.length_set] at hj
      rw [hval] at hc ⊢
      by_cases e : j = k
      · rw [if_pos e]
        rw [if_neg (by omega)] at hc
        intro h2
        exact (hne c h2).2 i (by omega) (by omega) hc
      · rw [if_neg e]
        by_cases e2 : i = k
        · rw [if_pos e2] at hc
          exact (hne c hc).2 j hj e
        · rw [if_neg e2] at hc
          exact h.pair i j hij hj c hc
theorem infoRow0 : (Try.prog.info? 22).map (fun i => (i.zero, i.size, i.bytes)) = some (some (.slice none 0 0), 1, 24) := by kernel_rfl
/-- the rows of nil that a make has made -/
theorem RowsP.made {w : World} {B n : Nat} {g : Nat} (h : w.ownsRow B 22 1 (.slice (some ⟨g, 0, none⟩) n n) n (List.replicate n (.slice none 0 0))) : RowsP w B (.slice (some ⟨g, 0, none⟩) n n) (List.replicate n (.slice none 0 0)) (List.replicate n []) := by
  have hv : ∀ k, k < n → valAt (List.replicate n (.slice none 0 0)) k = .slice none 0 0 := fun k hk => by simp [valAt, List.getD_eq_getElem?_getD, hk]
  refine ⟨⟨by rw [List.length_replicate]; exact h, fun k hk => ?_, fun k hk c hc => ?_⟩, fun j k hjk hk c hc => ?_⟩
  · rw [List.length_replicate] at hk
    rw [hv k hk]
    have : rowL (List.replicate n []) k = [] := by simp [rowL, hk]
    rw [this]
    exact OwnI.nil _ _
  · rw [List.length_replicate] at hk
    rw [hv k hk] at hc
    cases hc
  · rw [List.length_replicate] at hk
    rw [hv j (by omega)] at hc
    cases hc
/-- k rows of zeros, and rows of nil behind them -/
def zTo (n k : Nat) : List (List Int) := (List.range n).map fun i => if i < k then List.replicate n 0 else []
theorem zTo_len (n k : Nat) : (zTo n k).length = n := by simp [zTo]
theorem zTo_row {n k i : Nat} (h : i < n) : rowL (zTo n k) i = if i < k then List.replicate n 0 else [] := by simp [zTo, rowL, h]
theorem zTo_zero (n : Nat) : zTo n 0 = List.replicate n [] := by
  refine rows_ext (by simp [zTo]) (fun i hi => ?_)
  rw [zTo_len] at hi
  rw [zTo_row hi]
  simp [rowL, hi]
theorem zTo_end (n : Nat) : zTo n n = sqM (fun _ _ => 0) n n := by
  refine rows_ext (by rw [zTo_len, sqM_len]) (fun i hi => ?_)
  rw [zTo_len] at hi
  rw [zTo_row hi, sqM_row hi, if_pos hi]
  apply List.ext_getElem?
  intro j
  by_cases h : j < n <;> simp [fmap, h]
theorem zTo_step {n k : Nat} (h : k < n) : (zTo n k).set k (List.replicate n 0) = zTo n (k+1) := by
  refine rows_ext (by simp [zTo]) (fun i hi => ?_)
  rw [List.length_set, zTo_len] at hi
  rw [zTo_row hi]
  have : rowL ((zTo n k).set k (List.replicate n 0)) i = if i = k then List.replicate n 0 else rowL (zTo n k) i := by
    simp only [rowL, List.getD_eq_getElem?_getD, List.getElem?_set]
    by_cases e : k = i
    · subst e; simp [zTo_len, h]
    · simp [e, Ne.symm e]
  rw [this, zTo_row hi]
  by_cases e : i = k
  · rw [if_pos e, if_pos (by omega)]
  · rw [if_neg e]
    by_cases e2 : i < k
    · rw [if_pos e2, if_pos (by omega)]
    · rw [if_neg e2, if_neg (by omega)]
set_option maxRecDepth 100000 in
theorem zeroRows_any (n : Nat) (w : World) (hn : n ≤ 12) :
    Calls Try.prog 61 #[.int .i64 (n : Int)] w fun e w' => ∃ g vl, e = .returned (.slice (some ⟨g, 0, none⟩) n n) ∧ RowsP w' w.heap.size (.slice (some ⟨g, 0, none⟩) n n) vl (sqM (fun _ _ => 0) n n) ∧ Below w.heap.size w w' := by
  obtain ⟨i0, hi, hz0, hz1, hz2⟩ := info_parts infoInt
  obtain ⟨j0, hj0, hy0, hy1, hy2⟩ := info_parts infoRow0
  go_enter Try.func61, Try.ntmps61
  go_wp2_with (at_make; refine wpList_make_full _ rfl (.tmp 5) (.tmp 5) 37 rfl w.heap.size 22 j0 (.slice none 0 0) 1 Try.underlying37 hj0 hy0 hy1 .i64 .i64 _ _ n rfl rfl rfl rfl (by rw [hy2]; omega) (by unfold maxLen; omega) (Nat.le_refl _) ?_; intro w1 hown hgrow)
  have hb0 : Below w.heap.size w w1 := (Below.refl _ _).grown hgrow (Nat.le_refl _) (fun k h => by cases h)
  have hro : RowsP w1 w.heap.size (.slice (some ⟨w.heap.size, 0, none⟩) n n) (List.replicate n (.slice none 0 0)) (zTo n 0) := by
    rw [zTo_zero]
    exact RowsP.made (by simpa [Value.cells, toList_madeCells_one] using hown)
  clear hown hgrow
  obtain ⟨G, hG⟩ : ∃ G, G = w.heap.size := ⟨_, rfl⟩
  have HG := Lib.hid hG
  rw [← hG] at hro ⊢
  have hGG : w.heap.size ≤ G := by omega
  have hb0' : Below w.heap.size w w1 := hb0
  clear hG hb0
  have HRO := Lib.hid hro
  have hzs := (by have := hb0'.size; omega : w.heap.size ≤ w1.heap.size)
  clear hro
  go_wp2_with fail
  go_loopw [9] (fun i wr => ∃ (k : Nat) (vl : List Value), k ≤ n ∧ i = .int .i64 k ∧ RowsP wr w.heap.size (.slice (some ⟨G, 0, none⟩) n n) vl (zTo n k) ∧ Below w.heap.size w wr) (fun i _ => n - (intOf i).toNat)
  case atStart => exact ⟨0, _, Nat.zero_le _, rfl, by rw [← HG.out]; exact HRO.out, hb0'⟩
  case round =>
    obtain ⟨k, vl, hk, rfl, hro, hb⟩ := hrel
    have hbs := hb.size
    have HR := Lib.hid hro
    by_cases hlt : k < n
    · obtain ⟨W1, hW1⟩ : ∃ x : World, x = wr := ⟨_, rfl⟩
      subst hW1
      have k1 : (k : Int) < (n : Int) := by omega
      clear hro
      go_wp2_with (
        at_make
        refine wpList_make_full _ rfl (.tmp 14) (.tmp 14) 22 rfl W1.heap.size 3 i0 (.int .i64 0) 1 Try.underlying22 hi hz0 hz1 .i64 .i64 _ _ n rfl rfl rfl rfl (by rw [hz2]; omega) (by unfold maxLen; omega) (Nat.le_refl _) ?_
        intro w2 hown2 hgrow2
        have b2 : Below W1.heap.size W1 w2 := (Below.refl _ _).grown hgrow2 (Nat.le_refl _) (fun k h => by cases h)
        have o2 : OwnI w2 W1.heap.size (.slice (some ⟨W1.heap.size, 0, none⟩) n n) (List.replicate n 0) := by
          have h := made_row (fun _ => 0) hown2
          simpa [rowF, fmap] using h
        have hro2 := HR.out.below b2 (Nat.le_refl _)
        have hbk := HR.out.blk
        obtain ⟨g9, c9, e9, hg1, hg2, ⟨z9, hz9⟩, hf9, hnew⟩ := hro2.putRow (k := k) (r := List.replicate n 0) (by rw [zTo_len]; exact hlt) (o2.mono hbs) (fun c hc => by
          simp only [Value.ownBlock, Option.some.injEq] at hc
          subst hc
          exact ⟨fun h => by have := hbk.1 _ h; omega, fun j hj hne h => by have := hbk.2 j hj _ h; omega⟩)
        simp only [Value.slice.injEq, Option.some.injEq, Addr.mk.injEq, and_true] at e9
        obtain ⟨rfl, -, -⟩ := e9
        rw [zTo_step hlt] at hnew
        have HN := Lib.hid hnew
        have bw2 := hb.trans (b2.mono hbs)
        have bw3 := bw2.setCell (p := ⟨G, k, none⟩) hg1 (.slice (some ⟨W1.heap.size, 0, none⟩) n n)
        clear hown2 hgrow2 hnew o2 hro2 hbk)
      go_roundw
      case rel => exact ⟨k + 1, _, by omega, by go_num, HN.out, bw3⟩
      case measure => simp [intOf]; omega
    · obtain rfl : k = n := by omega
      rw [zTo_end] at HR
      clear hro
      go_wp2_with fail
      go_ret
      exact ⟨G, vl, rfl, HR.out, hb⟩

set_option maxRecDepth 100000 in
set_option maxHeartbeats 1000000 in
theorem iMxOrd_any (n : Int) (a : Option Addr) (xs : List Int) (cap : Nat) (w : World) (hn : -9223372036854775808 ≤ n ∧ n ≤ 9223372036854775807) (hx : Rd w a xs) :
    Calls Try.prog 25 #[.agg #[.int .i64 n, .slice a xs.length cap]] w fun e w' => ∃ a0 c0 vl, e = .returned (.tuple #[.agg #[.slice a0 (moL n xs).length c0], .bool (isIv n xs)]) ∧ RowsP w' w.heap.size (.slice a0 (moL n xs).length c0) vl (moL n xs) ∧ Below w.heap.size w w' := by
  have hlen := hx.len
  have hV := Var1.new (w.alloc (.cells #[.int .i64 n, .slice a xs.length cap] 28)) (.slice none 0 0) 39
  have hb0 : Below w.heap.size w ((w.alloc (.cells #[.int .i64 n, .slice a xs.length cap] 28)).alloc (.cells #[.slice none 0 0] 39)) := (by repeat (first | exact Below.refl _ _ | assumption | refine Below.alloc ?_ (by first | exact Nat.le_refl _ | (simp only [World.size_alloc, World.size_setCell, World.size_drew]; omega) | omega) _ | refine Below.setCell ?_ (by first | exact Nat.le_refl _ | (simp only [World.size_alloc, World.size_setCell, World.size_drew]; omega) | omega) _ | refine Below.drew ?_))
  have hA := (Box2.new w (.int .i64 n) (.slice a xs.length cap) 28).below ((Below.refl _ _).alloc (Nat.le_refl _) (.cells #[.slice none 0 0] 39))
  rw [World.size_alloc] at hV
  have HCL := Lib.hid (fun W (h : Rd W a xs) => iEnds_any n a xs cap W hn h)
  cases hm : isIv n xs
  · have HM := Lib.hid hm
    have H1 : Hid (moL n xs = []) := by simp [Hid, moL, hm]
    clear hm
    go_enter Try.func25, Try.ntmps25
    go_wp2_with fail
    refine (HCL.out _ (hx.below hb0)).mono ?_
    rintro e w1 ⟨ag, cg, rfl, ho, hb⟩
    rw [HM.out]
    have b1 : Below w.heap.size w w1 := hb0.trans (hb.mono (by simp; omega))
    have hV1 := hV.below hb
    have ⟨⟨zV, cV⟩, fV⟩ := hV1
    clear hb hV ho
    go_wp2_with fail
    have hV2 := hV1.set (.slice none 0 0)
    have b2 := b1.setCell (p := ⟨w.heap.size + 1, 0, none⟩) (by simp) (.slice none 0 0)
    refine bodyPost_ret (v := .tuple #[.agg #[.slice none 0 0], .bool false]) (by have ⟨⟨_, q1⟩, _⟩ := hV2; simp [results, Try.results25, go_sem, q1]) rfl ?_
    exact ⟨none, 0, [], by rw [H1.out]; rfl, by rw [H1.out]; exact RowsP.nil _ _, b2⟩
  · have HM := Lib.hid hm
    have hp := ord_rel (isIv_ord hm)
    have h10 : xs.length ≤ 10 := by have := hp.len; have := hp.n1; omega
    have hsl := sets_len xs
    have HE : Hid (∀ k, k < xs.length → (0 ≤ lv xs k ∧ lv xs k < ((sets xs).length : Int)) ∧ (0 ≤ rtE xs k ∧ rtE xs k < ((sets xs).length : Int))) := fun k hk => ends_in hm hk
    have H1 : Hid (moL n xs = sqM (cntE xs xs.length) (sets xs).length (sets xs).length) := by rw [Hid, moL, if_pos hm]
    have H2 : Hid (magF n xs = ((sets xs).length : Int)) := by rw [Hid, magF, if_pos hm]
    have H3 : Hid (endL n xs = endp xs xs.length) := by rw [Hid, endL, if_pos hm]
    have H4 : Hid (endN n xs = xs.length) := by rw [Hid, endN, if_pos hm]
    obtain ⟨D, hD⟩ : ∃ D, D = (sets xs).length := ⟨_, rfl⟩
    rw [← hD] at hsl HE H1 H2
    have HX := Lib.hid hx
    have HN := Lib.hid hn
    clear hm hp hx hD hn
    go_enter Try.func25, Try.ntmps25
    go_wp2_with fail
    refine (HCL.out _ (HX.out.below hb0)).mono ?_
    rintro e w1 ⟨ag, cg, rfl, ho, hb⟩
    rw [HM.out]
    rw [H3.out, H4.out] at ho
    rw [H4.out]
    have b1 : Below w.heap.size w w1 := hb0.trans (hb.mono (by simp; omega))
    have hV1 := hV.below hb
    have hA1 := hA.below hb
    have ⟨zA, cA, dA⟩ := hA1
    have hz1 : w.heap.size + 2 ≤ w1.heap.size := by have := hb.size; simp at this; omega
    have HO := Lib.hid ho
    have HV1 := Lib.hid hV1
    clear hb hV hb0 HCL ho hV1 hA hA1
    go_wp2_with fail
    refine (iMagnitude_any n a xs cap _ HN.out (HX.out.below b1)).mono ?_
    rintro e w2 ⟨rfl, hb2⟩
    rw [H2.out]
    have b2 := b1.trans (hb2.mono b1.size)
    have HO2 := Lib.hid (HO.out.below hb2 (Nat.le_refl _))
    have HV2 := Lib.hid (HV1.out.below hb2)
    have hz2 : w.heap.size + 2 ≤ w2.heap.size := by have := hb2.size; omega
    clear hb2 HO HV1 cA dA
    go_wp2_with fail
    refine (zeroRows_any D _ (by omega)).mono ?_
    rintro e w3 ⟨g, vl, rfl, hro, hb3⟩
    have b3 := b2.trans (hb3.mono b2.size)
    have hbk := HO2.out.lt
    have HRO := Lib.hid (hro.mono (B' := w2.heap.size) (Nat.le_refl _))
    have HO3 := Lib.hid ((HO2.out.below hb3 (Nat.le_refl _)).rd (by omega))
    have HV3 := Lib.hid (HV2.out.below hb3)
    have hs3 := hb3.size
    have HRd : Hid (∀ W, Below w2.heap.size w2 W → Rd W ag (endp xs xs.length)) := fun W h => (HO2.out.rd (by omega)).below h
    have bb3 : Below w2.heap.size w2 w3 := hb3
    have hz : sqM (fun _ _ => 0) D D = sqM (cntE xs 0) D D := sqM_congr (fun i hi j hj => rfl)
    rw [hz] at HRO
    clear hro hb3 HO2 hbk hz
    go_wp2_with fail
    go_loopw [28] (fun i wr => ∃ k : Nat, k ≤ xs.length ∧ i = .int .i64 k ∧ RowsP wr w2.heap.size (.slice (some ⟨g, 0, none⟩) D D) vl (sqM (cntE xs k) D D) ∧ Below w2.heap.size w2 wr) (fun i _ => xs.length - (intOf i).toNat)
    case atStart => exact ⟨0, Nat.zero_le _, rfl, HRO.out, bb3⟩
    case round =>
      obtain ⟨k, hk, rfl, hro, hb⟩ := hrel
      have hbs := hb.size
      have HRO := Lib.hid hro
      by_cases hlt : k < xs.length
      · have k1 : (k : Int) < (xs.length : Int) := by omega
        obtain ⟨b5, off5, rfl, hb5, hcl, hcr⟩ := (HRd.out wr hb).pair (prs_len _ _ _) hlt
        rw [endp, prs_lft _ _ hlt] at hcl
        rw [endp, prs_rgt _ _ hlt] at hcr
        have ⟨⟨l0, l1⟩, ⟨r0, r1⟩⟩ := HE.out k hlt
        obtain ⟨L, hL⟩ := Int.eq_ofNat_of_zero_le l0
        obtain ⟨R, hR⟩ := Int.eq_ofNat_of_zero_le r0
        have HST : Hid (L < D → R < D → setM (sqM (cntE xs k) D D) L R (cntE xs k L R + 1) = sqM (cntE xs (k+1)) D D) := fun h1 h2 => cntE_step hL hR h1 h2
        rw [hL] at l0 l1 hcl
        rw [hR] at r0 r1 hcr
        have hLd : L < D := by omega
        have hRd : R < D := by omega
        clear hL hR
        obtain ⟨g4, e4, hg4, hg5, hc4, hf4⟩ := hro.outer (k := L) (by rw [sqM_len]; exact hLd)
        simp only [Option.some.injEq, Addr.mk.injEq, and_true] at e4
        subst e4
        obtain ⟨g6, c6, e6, hg6, hg7, hc6, hf6, hnew⟩ := hro.num (i := L) (j := R) (by rw [sqM_len]; exact hLd) (by rw [sqM_rlen hLd]; exact hRd)
        rw [e6, sqM_rlen hLd] at hc4
        rw [sqM_at hLd hRd] at hc6
        have hn2 := hnew (cntE xs k L R + 1)
        rw [HST.out hLd hRd] at hn2
        have ⟨hb1, hb2⟩ := cntE_bd xs L R k
        obtain ⟨Z, hZ⟩ : ∃ Z, Z = cntE xs k L R := ⟨_, rfl⟩
        rw [← hZ] at hc6 hn2 hb1 hb2
        have hal : Below w2.heap.size w2 ((wr.setCell ⟨g6, R, none⟩ (.int .i64 (Z + 1))).alloc (.cells #[.int .i64 (L : Int), .int .i64 (R : Int)] 71)) := (hb.setCell (p := ⟨g6, R, none⟩) hg6 _).alloc (by simpa using hbs) _
        have hn3 := hn2.below ((Below.refl _ _).alloc (Nat.le_refl _) (.cells #[.int .i64 (L : Int), .int .i64 (R : Int)] 71)) (Nat.le_refl _)
        have HN3 := Lib.hid hn3
        clear hro hnew hn2 hn3 e6 hZ
        go_wp2_with fail
        go_region
        all_goals
          go_wp2_with fail
          go_roundw
          case rel =>
            refine ⟨k + 1, by omega, by go_num, ?_, ?_⟩
            · first
              | exact HN3.out
              | exact HN3.out.below (Below.refl _ _).drew (Nat.le_refl _)
            · first
              | exact hal
              | exact hal.drew
          case measure => simp [intOf]; omega
      · obtain rfl : k = xs.length := by omega
        have hV := HV2.out.below hb
        have ⟨⟨zV, cV⟩, fV⟩ := hV
        have HV1 := Lib.hid hV
        have bw := b2.trans (hb.mono (by omega))
        clear hro hV
        go_wp2_with fail
        have hV2 := HV1.out.set (.slice (some ⟨g, 0, none⟩) D D)
        have b2 := bw.setCell (p := ⟨w.heap.size + 1, 0, none⟩) (by simp) (.slice (some ⟨g, 0, none⟩) D D)
        refine bodyPost_ret (v := .tuple #[.agg #[.slice (some ⟨g, 0, none⟩) D D], .bool true]) (by have ⟨⟨_, q1⟩, _⟩ := hV2; simp [results, Try.results25, go_sem, q1]) rfl ?_
        exact ⟨_, D, vl, by rw [H1.out, sqM_len], by rw [H1.out, sqM_len]; exact (HRO.out.setBelow (show w.heap.size + 1 < w2.heap.size by omega) _).mono (by omega), b2⟩

theorem sliceEqual_any (a b : Option Addr) (xs ys : List Int) (ca cb : Nat) (w : World) (hx : Rd w a xs) (hy : Rd w b ys) :
    Calls Try.prog 53 #[.slice a xs.length ca, .slice b ys.length cb] w fun e w' => e = .returned (.bool (eqL xs ys)) ∧ Below w.heap.size w w' := by
  have hlx := hx.len
  have hly := hy.len
  by_cases hl : xs.length = ys.length
  · have hl' : ((xs.length : Int) != (ys.length : Int)) = false := by simp [hl]
    go_enter Try.func53, Try.ntmps53
    have HL := Lib.hid hl
    clear hl
    go_wp2_with fail
    go_loopw [13] (fun i wr => ∃ k : Nat, k ≤ xs.length ∧ i = .int .i64 k ∧ xs.take k = ys.take k ∧ Below w.heap.size w wr) (fun i _ => xs.length - (intOf i).toNat)
    case atStart => exact ⟨0, Nat.zero_le _, rfl, rfl, Below.refl _ _⟩
    case round =>
      obtain ⟨k, hk, rfl, htk, hb⟩ := hrel
      have HT := Lib.hid htk
      clear htk
      by_cases hlt : k < xs.length
      · have hlt' : k < ys.length := by rw [← HL.out]; exact hlt
        obtain ⟨b1, o1, rfl, hb1, hc1⟩ := (hx.below hb).cell k hlt
        obtain ⟨b2, o2, rfl, hb2, hc2⟩ := (hy.below hb).cell k hlt'
        by_cases he : nth xs k = nth ys k
        · have he' : (nth xs k != nth ys k) = false := by simp [he]
          have HE := Lib.hid he
          clear he
          go_wp2_with fail
          go_quiet (fail)
          go_wp2_with fail
          go_roundw
          case rel =>
            refine ⟨k + 1, by omega, by go_num, ?_, by exact hb.trans (Joins.below_draws _ _ _)⟩
            rw [List.take_succ_eq_append_getElem hlt, List.take_succ_eq_append_getElem hlt', HT.out, ← nth_get, ← nth_get, HE.out]
          case measure => simp [intOf]; omega
        · have he' : (nth xs k != nth ys k) = true := by simp [he]
          have hne : eqL xs ys = false := by
            simp only [eqL, decide_eq_false_iff_not]
            intro e
            subst e
            exact he rfl
          have HN := Lib.hid hne
          clear he hne
          go_wp2_with fail
          go_quiet (fail)
          go_wp2_with fail
          go_ret
          exact ⟨ret_bool HN.out.symm, hb.trans (Joins.below_draws _ _ _)⟩
      · go_wp2_with fail
        go_ret
        refine ⟨ret_bool ?_, hb⟩
        have h1 := HT.out
        rw [List.take_of_length_le (by omega), List.take_of_length_le (by rw [← HL.out]; omega)] at h1
        simp [eqL, h1]
  · have hl' : ((xs.length : Int) != (ys.length : Int)) = true := by simp; omega
    have hne : eqL xs ys = false := by
      simp only [eqL, decide_eq_false_iff_not]
      intro e
      exact hl (by rw [e])
    have HN := Lib.hid hne
    clear hl hne
    go_enter Try.func53, Try.ntmps53
    go_wp2_with fail
    go_ret
    exact ⟨ret_bool HN.out.symm, Below.refl _ _⟩

set_option maxRecDepth 100000 in
theorem eqFunc_any (a b : Option Addr) (xss yss : List (List Int)) (ca cb : Nat) (w : World) (hx : RdS w a xss) (hy : RdS w b yss) :
    Calls Try.prog 65 #[.slice a xss.length ca, .slice b yss.length cb, .func (.func 53) #[] #[]] w fun e w' => e = .returned (.bool (eqR xss yss)) ∧ Below w.heap.size w w' := by
  have hlx := hx.len
  have hly := hy.len
  by_cases hl : xss.length = yss.length
  · have hl' : ((xss.length : Int) != (yss.length : Int)) = false := by simp [hl]
    have HL := Lib.hid hl
    clear hl
    go_enter Try.func65, Try.ntmps65
    go_wp2_with fail
    go_loopw [17] (fun i wr => ∃ k : Nat, k ≤ xss.length ∧ i = .int .i64 k ∧ Hid (∀ j, j < k → eqL (rowL xss j) (rowL yss j) = true) ∧ Below w.heap.size w wr) (fun i _ => xss.length - (intOf i).toNat)
    case atStart => exact ⟨0, Nat.zero_le _, rfl, fun j hj => by omega, Below.refl _ _⟩
    case round =>
      obtain ⟨k, hk, rfl, HA, hb⟩ := hrel
      have hbs := hb.size
      by_cases hlt : k < xss.length
      · have hlt' : k < yss.length := by rw [← HL.out]; exact hlt
        obtain ⟨b1, o1, a1, c1, rfl, hb1, hc1, hr1⟩ := (hx.below hb).row k hlt
        obtain ⟨b2, o2, a2, c2, rfl, hb2, hc2, hr2⟩ := (hy.below hb).row k hlt'
        have k1 : (k : Int) < (xss.length : Int) := by omega
        have k2 : (k : Int) < (yss.length : Int) := by omega
        have hrl1 := hr1.len
        have hrl2 := hr2.len
        have HC := Lib.hid (sliceEqual_any a1 a2 (rowL xss k) (rowL yss k) c1 c2 wr hr1 hr2)
        cases he : eqL (rowL xss k) (rowL yss k)
        · have H : Hid (eqR xss yss = false) := by
            rw [Hid, ← Bool.not_eq_true, eqR_iff]
            intro h
            rw [h.2 k hlt] at he
            cases he
          have HE := Lib.hid he
          clear he hr1 hr2
          go_wp2_with fail
          refine HC.out.mono ?_
          rintro e w2 ⟨rfl, hb2'⟩
          rw [HE.out]
          go_wp2_with fail
          go_ret
          exact ⟨ret_bool H.out.symm, hb.trans (hb2'.mono hbs)⟩
        · have HE := Lib.hid he
          clear he hr1 hr2
          go_wp2_with fail
          refine HC.out.mono ?_
          rintro e w2 ⟨rfl, hb2'⟩
          rw [HE.out]
          go_wp2_with fail
          go_roundw
          case rel =>
            refine ⟨k + 1, by omega, by go_num, fun j hj => ?_, hb.trans (hb2'.mono hbs)⟩
            by_cases e : j = k
            · rw [e]; exact HE.out
            · exact HA.out j (by omega)
          case measure => simp [intOf]; omega
      · obtain rfl : k = xss.length := by omega
        have H : Hid (eqR xss yss = true) := eqR_iff.2 ⟨HL.out, HA.out⟩
        go_wp2_with fail
        go_ret
        exact ⟨ret_bool H.out.symm, hb⟩
  · have hl' : ((xss.length : Int) != (yss.length : Int)) = true := by simp; omega
    have H : Hid (eqR xss yss = false) := by
      rw [Hid, ← Bool.not_eq_true, eqR_iff]
      intro h
      exact hl h.1
    clear hl
    go_enter Try.func65, Try.ntmps65
    go_wp2_with fail
    go_ret
    exact ⟨ret_bool H.out.symm, Below.refl _ _⟩

set_option maxRecDepth 100000 in
set_option maxHeartbeats 1000000 in
theorem iAlike_any (n : Int) (a : Option Addr) (xs : List Int) (cap : Nat) (m : Int) (b : Option Addr) (ys : List Int) (capb : Nat) (w : World) (hn : -9223372036854775808 ≤ n ∧ n ≤ 9223372036854775807) (hx : Rd w a xs) (hm : -9223372036854775808 ≤ m ∧ m ≤ 9223372036854775807) (hy : Rd w b ys) :
    Calls Try.prog 35 #[.agg #[.int .i64 n, .slice a xs.length cap], .agg #[.int .i64 m, .slice b ys.length capb]] w fun e w' => e = .returned (.tuple #[.bool (alkV n xs m ys), .bool (alkB n xs m ys)]) ∧ Below w.heap.size w w' := by
  have hb0 : Below w.heap.size w ((w.alloc (.cells #[.int .i64 n, .slice a xs.length cap] 28)).alloc (.cells #[.int .i64 m, .slice b ys.length capb] 28)) := (by repeat (first | exact Below.refl _ _ | assumption | refine Below.alloc ?_ (by first | exact Nat.le_refl _ | (simp only [World.size_alloc, World.size_setCell, World.size_drew]; omega) | omega) _ | refine Below.setCell ?_ (by first | exact Nat.le_refl _ | (simp only [World.size_alloc, World.size_setCell, World.size_drew]; omega) | omega) _ | refine Below.drew ?_))
  have hA := (Box2.new w (.int .i64 n) (.slice a xs.length cap) 28).below ((Below.refl _ _).alloc (Nat.le_refl _) (.cells #[.int .i64 m, .slice b ys.length capb] 28))
  have hB := Box2.new (w.alloc (.cells #[.int .i64 n, .slice a xs.length cap] 28)) (.int .i64 m) (.slice b ys.length capb) 28
  rw [World.size_alloc] at hB
  have HX := Lib.hid hx
  have HY := Lib.hid hy
  have HC1 := Lib.hid (fun W (h : Rd W a xs) => iMxOrd_any n a xs cap W hn h)
  have HC2 := Lib.hid (fun W (h : Rd W b ys) => iMxOrd_any m b ys capb W hm h)
  have H3 : Hid (alkV n xs m ys = (alkB n xs m ys && eqR (moL n xs) (moL m ys))) := rfl
  have H2 : Hid (alkB n xs m ys = (isIv n xs && isIv m ys)) := rfl
  obtain ⟨P, hP⟩ : ∃ P, P = moL n xs := ⟨_, rfl⟩
  obtain ⟨Q, hQ⟩ : ∃ Q, Q = moL m ys := ⟨_, rfl⟩
  rw [← hP] at HC1 H3
  rw [← hQ] at HC2 H3
  clear hx hy hP hQ
  go_enter Try.func35, Try.ntmps35
  go_wp2_with fail
  refine (HC1.out _ (HX.out.below hb0)).mono ?_
  rintro e w1 ⟨a1, c1, l1, rfl, hro1, hb⟩
  have b1 : Below w.heap.size w w1 := hb0.trans (hb.mono (by simp; omega))
  have hB1 := (hB.below hb).below ((Below.refl _ _).alloc (Nat.le_refl _) (.cells #[.slice a1 P.length c1] 39))
  have hP1 := Box1.new w1 (.slice a1 P.length c1) 39
  have b1' := b1.alloc b1.size (.cells #[.slice a1 P.length c1] 39)
  have hro1' := hro1.below ((Below.refl _ _).alloc (Nat.le_refl _) (.cells #[.slice a1 P.length c1] 39)) (Nat.le_refl _)
  have ⟨zB, cB, dB⟩ := hB1
  have HRO1 := Lib.hid hro1'
  clear hb hA hB hro1 hro1' hb0
  go_wp2_with fail
  refine (HC2.out _ (HY.out.below b1')).mono ?_
  rintro e w2 ⟨a2, c2, l2, rfl, hro2, hb2⟩
  have b2 := b1'.trans (hb2.mono b1'.size)
  have hP2 := (hP1.below hb2).below ((Below.refl _ _).alloc (Nat.le_refl _) (.cells #[.slice a2 Q.length c2] 39))
  have hQ2 := Box1.new w2 (.slice a2 Q.length c2) 39
  have b2' := b2.alloc b2.size (.cells #[.slice a2 Q.length c2] 39)
  have bq : Below w2.heap.size w2 (w2.alloc (.cells #[.slice a2 Q.length c2] 39)) := (Below.refl _ _).alloc (Nat.le_refl _) _
  have HEQ := Lib.hid (eqFunc_any a1 a2 P Q c1 c2 (w2.alloc (.cells #[.slice a2 Q.length c2] 39)) (((HRO1.out.below hb2 (Nat.le_refl _)).below bq (Nat.le_refl _)).o.rd) ((hro2.below bq (Nat.le_refl _)).o.rd))
  have ⟨zP, cP⟩ := hP2
  have ⟨zQ, cQ⟩ := hQ2
  clear hb2 hro2 hB1 cB dB bq
  cases h1 : isIv n xs
  · have H1 := Lib.hid h1
    rw [H1.out] at H2
    clear h1
    go_wp2_with fail
    go_ret2
    exact ⟨ret_bb (by rw [H3.out, H2.out]; rfl) (by rw [H2.out]; rfl), b2'⟩
  · cases h2 : isIv m ys
    · have H1 := Lib.hid h1
      have HI := Lib.hid h2
      rw [H1.out, HI.out] at H2
      clear h1 h2
      go_wp2_with fail
      go_ret2
      exact ⟨ret_bb (by rw [H3.out, H2.out]; rfl) (by rw [H2.out]; rfl), b2'⟩
    · have H1 := Lib.hid h1
      have HI := Lib.hid h2
      rw [H1.out, HI.out] at H2
      clear h1 h2
      go_wp2_with fail
      refine HEQ.out.mono ?_
      rintro e w3 ⟨rfl, hb3⟩
      go_wp2_with fail
      go_ret2
      exact ⟨ret_bb (by rw [H3.out, H2.out]; rfl) (by rw [H2.out]; rfl), b2'.trans (hb3.mono b2'.size)⟩

theorem walk (n0 : Int) (a0 : Option Addr) (xs0 : List Int) (cap0 : Nat) (n1 : Int) (a1 : Option Addr) (xs1 : List Int) (cap1 : Nat) (w : World) (hn0 : -9223372036854775808 ≤ n0 ∧ n0 ≤ 9223372036854775807) (hx0 : Rd w a0 xs0) (hn1 : -9223372036854775808 ≤ n1 ∧ n1 ≤ 9223372036854775807) (hx1 : Rd w a1 xs1) :
    Calls Try.prog 8 #[.agg #[.int .i64 n0, .slice a0 xs0.length cap0], .agg #[.int .i64 n1, .slice a1 xs1.length cap1]] w fun e w' => e = .returned (.bool true) ∧ Below w.heap.size w w' := by
  by_cases hs0 : 1048576 < (xs0.length : Int)
  · go_enter Try.func8, Try.ntmps8
    go_wp2_with fail
    refine (szOrder_no (by omega) (by omega) (by omega) hx0.len).mono ?_
    rintro e w1 ⟨rfl, hb1⟩
    have bw1 : Below w.heap.size w w1 := Below.trans (by repeat (first | exact Below.refl _ _ | assumption | refine Below.alloc ?_ (by first | exact Nat.le_refl _ | (simp only [World.size_alloc, World.size_setCell, World.size_drew]; omega) | omega) _ | refine Below.setCell ?_ (by first | exact Nat.le_refl _ | (simp only [World.size_alloc, World.size_setCell, World.size_drew]; omega) | omega) _ | refine Below.drew ?_)) (hb1.mono (by first | (simp only [World.size_alloc, World.size_setCell, World.size_drew]; omega) | omega))
    have A0_1 : Box2 w1 w.heap.size (.int .i64 n0) (.slice a0 xs0.length cap0) := ⟨by have := hb1.size; simp at this; omega, (hb1.cell (p := ⟨w.heap.size, 0, none⟩) (by simp <;> omega)).trans (by simp), (hb1.cell (p := ⟨w.heap.size, 1, none⟩) (by simp <;> omega)).trans (by simp)⟩
    have ⟨zA0_1, cA0_1, dA0_1⟩ := A0_1
    have A1_1 : Box2 w1 (w.heap.size + 1) (.int .i64 n1) (.slice a1 xs1.length cap1) := ⟨by have := hb1.size; simp at this; omega, (hb1.cell (p := ⟨(w.heap.size + 1), 0, none⟩) (by simp <;> omega)).trans (by simp), (hb1.cell (p := ⟨(w.heap.size + 1), 1, none⟩) (by simp <;> omega)).trans (by simp)⟩
    have ⟨zA1_1, cA1_1, dA1_1⟩ := A1_1
    go_wp2_with fail
    go_ret
    exact ⟨rfl, bw1⟩
  by_cases hs1 : 1048576 < (xs0.length : Int) + (xs1.length : Int)
  · go_enter Try.func8, Try.ntmps8
    go_wp2_with fail
    refine (szOrder_ok (by omega) (by omega)).mono ?_
    rintro e w1 ⟨rfl, hb1⟩
    have bw1 : Below w.heap.size w w1 := Below.trans (by repeat (first | exact Below.refl _ _ | assumption | refine Below.alloc ?_ (by first | exact Nat.le_refl _ | (simp only [World.size_alloc, World.size_setCell, World.size_drew]; omega) | omega) _ | refine Below.setCell ?_ (by first | exact Nat.le_refl _ | (simp only [World.size_alloc, World.size_setCell, World.size_drew]; omega) | omega) _ | refine Below.drew ?_)) (hb1.mono (by first | (simp only [World.size_alloc, World.size_setCell, World.size_drew]; omega) | omega))
    have A0_1 : Box2 w1 w.heap.size (.int .i64 n0) (.slice a0 xs0.length cap0) := ⟨by have := hb1.size; simp at this; omega, (hb1.cell (p := ⟨w.heap.size, 0, none⟩) (by simp <;> omega)).trans (by simp), (hb1.cell (p := ⟨w.heap.size, 1, none⟩) (by simp <;> omega)).trans (by simp)⟩
    have ⟨zA0_1, cA0_1, dA0_1⟩ := A0_1
    have A1_1 : Box2 w1 (w.heap.size + 1) (.int .i64 n1) (.slice a1 xs1.length cap1) := ⟨by have := hb1.size; simp at this; omega, (hb1.cell (p := ⟨(w.heap.size + 1), 0, none⟩) (by simp <;> omega)).trans (by simp), (hb1.cell (p := ⟨(w.heap.size + 1), 1, none⟩) (by simp <;> omega)).trans (by simp)⟩
    have ⟨zA1_1, cA1_1, dA1_1⟩ := A1_1
    go_wp2_with fail
    refine (szOrder_no (by omega) (by omega) (by omega) hx1.len).mono ?_
    rintro e w2 ⟨rfl, hb2⟩
    have bw2 : Below w.heap.size w w2 := bw1.trans (hb2.mono bw1.size)
    have A0_2 := A0_1.below hb2
    have ⟨zA0_2, cA0_2, dA0_2⟩ := A0_2
    have A1_2 := A1_1.below hb2
    have ⟨zA1_2, cA1_2, dA1_2⟩ := A1_2
    go_wp2_with fail
    go_ret
    exact ⟨rfl, bw2⟩
  go_enter Try.func8, Try.ntmps8
  go_wp2_with fail
  refine (szOrder_ok (by omega) (by omega)).mono ?_
  rintro e w1 ⟨rfl, hb⟩
  have bw1 : Below w.heap.size w w1 := Below.trans (by repeat (first | exact Below.refl _ _ | assumption | refine Below.alloc ?_ (by first | exact Nat.le_refl _ | (simp only [World.size_alloc, World.size_setCell, World.size_drew]; omega) | omega) _ | refine Below.setCell ?_ (by first | exact Nat.le_refl _ | (simp only [World.size_alloc, World.size_setCell, World.size_drew]; omega) | omega) _ | refine Below.drew ?_)) (hb.mono (by first | (simp only [World.size_alloc, World.size_setCell, World.size_drew]; omega) | omega))
  have z1 : w.heap.size ≤ w1.heap.size := bw1.size
  have A0_1 : Box2 w1 w.heap.size (.int .i64 n0) (.slice a0 xs0.length cap0) := ⟨by have := hb.size; simp at this; omega, (hb.cell (p := ⟨w.heap.size, 0, none⟩) (by simp <;> omega)).trans (by simp), (hb.cell (p := ⟨w.heap.size, 1, none⟩) (by simp <;> omega)).trans (by simp)⟩
  have ⟨zA0_1, cA0_1, dA0_1⟩ := A0_1
  have A1_1 : Box2 w1 (w.heap.size + 1) (.int .i64 n1) (.slice a1 xs1.length cap1) := ⟨by have := hb.size; simp at this; omega, (hb.cell (p := ⟨(w.heap.size + 1), 0, none⟩) (by simp <;> omega)).trans (by simp), (hb.cell (p := ⟨(w.heap.size + 1), 1, none⟩) (by simp <;> omega)).trans (by simp)⟩
  have ⟨zA1_1, cA1_1, dA1_1⟩ := A1_1
  clear hb
  go_wp2_with fail
  refine (szOrder_ok (by omega) (by omega)).mono ?_
  rintro e w2 ⟨rfl, hb⟩
  have ht : Below w1.heap.size w1 w2 := hb
  have z2 : w1.heap.size ≤ w2.heap.size := ht.size
  have bw2 : Below w.heap.size w w2 := bw1.trans (ht.mono bw1.size)
  have A0_2 := A0_1.below ht
  have A1_2 := A1_1.below ht
  have ⟨zA0_2, cA0_2, dA0_2⟩ := A0_2
  have ⟨zA1_2, cA1_2, dA1_2⟩ := A1_2
  clear A0_1 cA0_1 dA0_1 A1_1 cA1_1 dA1_1
  clear ht hb
  go_wp2_with fail
  go_region_held3 (fun w' => w'.cell? ⟨w.heap.size, 0, none⟩ = some (.int .i64 n0) ∧ w'.cell? ⟨w.heap.size, 1, none⟩ = some (.slice a0 xs0.length cap0) ∧ w'.cell? ⟨(w.heap.size + 1), 0, none⟩ = some (.int .i64 n1) ∧ w'.cell? ⟨(w.heap.size + 1), 1, none⟩ = some (.slice a1 xs1.length cap1))
    (first | exact ⟨QA0_5.2.1, QA0_5.2.2, QA1_5.2.1, QA1_5.2.2⟩ | exact ⟨QA0_4.2.1, QA0_4.2.2, QA1_4.2.1, QA1_4.2.2⟩ | exact ⟨QA0_3.2.1, QA0_3.2.2, QA1_3.2.1, QA1_3.2.2⟩ | go_keep)
    (first | (go_at_call 34; refine (sAlike_any _ _ _ _ _ _ _ _ _ hn0 (oT0.rd.below hb4) hn1 (oT1.rd)).mono ?_; rintro e w5 ⟨rfl, hb5⟩; have ht5 : Below w2.heap.size w2 w5 := ht4.trans (hb5.mono ht4.size); have bw5 : Below w.heap.size w w5 := bw2.trans (ht5.mono bw2.size); have QA0_5 := A0_2.below ht5; have QA1_5 := A1_2.below ht5) | (have _g := ht3; go_at_call 15; refine (toOrder_any _ _ _ _ _ (hx1.below bw3) (by omega)).mono ?_; rintro e w4 ⟨pT1, qT1, rfl, oT1, hb4⟩; have ht4 : Below w2.heap.size w2 w4 := ht3.trans (hb4.mono ht3.size); have bw4 : Below w.heap.size w w4 := bw2.trans (ht4.mono bw2.size); have QA0_4 := A0_2.below ht4; have QA1_4 := A1_2.below ht4) | (go_at_call 15; refine (toOrder_any _ _ _ _ _ (hx0.below (bw2.trans (Joins.below_draws _ _ _))) (by omega)).mono ?_; rintro e w3 ⟨pT0, qT0, rfl, oT0, hb3⟩; have ht3 : Below w2.heap.size w2 w3 := (Joins.below_draws _ _ _).trans hb3; have bw3 : Below w.heap.size w w3 := bw2.trans (ht3.mono bw2.size); have QA0_3 := A0_2.below ht3; have QA1_3 := A1_2.below ht3))
  have ht : Below w2.heap.size w2 w5 := ht5
  have z5 : w2.heap.size ≤ w5.heap.size := ht.size
  clear QA0_3 QA0_4 QA0_5 QA1_3 QA1_4 QA1_5 oT0 oT1
  have A0_5 := A0_2.below ht
  have A1_5 := A1_2.below ht
  have ⟨zA0_5, cA0_5, dA0_5⟩ := A0_5
  have ⟨zA1_5, cA1_5, dA1_5⟩ := A1_5
  clear A0_2 cA0_2 dA0_2 A1_2 cA1_2 dA1_2
  clear ht ht3 hb3 ht4 hb4 ht5 hb5
  go_wp2_with fail
  refine (toOrder_any _ _ _ _ _ (hx0.below bw5) (by omega)).mono ?_
  rintro e w6 ⟨pX0, qX0, rfl, ho, hb⟩
  have ht : Below w5.heap.size w5 w6 := hb
  have z6 : w5.heap.size ≤ w6.heap.size := ht.size
  have bw6 : Below w.heap.size w w6 := bw5.trans (ht.mono bw5.size)
  have A0_6 := A0_5.below ht
  have A1_6 := A1_5.below ht
  have ⟨zA0_6, cA0_6, dA0_6⟩ := A0_6
  have ⟨zA1_6, cA1_6, dA1_6⟩ := A1_6
  clear A0_5 cA0_5 dA0_5 A1_5 cA1_5 dA1_5
  have X0_6 := ho
  have UX0 := X0_6.cut (Nat.le_refl _)
  clear ho
  clear ht hb
  go_wp2_with fail
  refine (toOrder_any _ _ _ _ _ (hx1.below (bw6.alloc bw6.size _)) (by omega)).mono ?_
  rintro e w7 ⟨pX1, qX1, rfl, ho, hb⟩
  have ht : Below w6.heap.size w6 w7 := Below.trans (by repeat (first | exact Below.refl _ _ | assumption | refine Below.alloc ?_ (by first | exact Nat.le_refl _ | (simp only [World.size_alloc, World.size_setCell, World.size_drew]; omega) | omega) _ | refine Below.setCell ?_ (by first | exact Nat.le_refl _ | (simp only [World.size_alloc, World.size_setCell, World.size_drew]; omega) | omega) _ | refine Below.drew ?_)) (hb.mono (by first | (simp only [World.size_alloc, World.size_setCell, World.size_drew]; omega) | omega))
  have z7 : w6.heap.size ≤ w7.heap.size := ht.size
  have bw7 : Below w.heap.size w w7 := bw6.trans (ht.mono bw6.size)
  have A0_7 := A0_6.below ht
  have A1_7 := A1_6.below ht
  have BX0_7 : Box2 w7 w6.heap.size (.int .i64 n0) (.slice pX0 xs0.length qX0) := (Box2.new w6 _ _ 28).below hb
  have ⟨zA0_7, cA0_7, dA0_7⟩ := A0_7
  have ⟨zA1_7, cA1_7, dA1_7⟩ := A1_7
  have ⟨zBX0_7, cBX0_7, dBX0_7⟩ := BX0_7
  have X0_7 := X0_6.below ht (Nat.le_refl _)
  clear A0_6 cA0_6 dA0_6 A1_6 cA1_6 dA1_6 X0_6
  have X1_7 := ho
  have UX1 := X1_7.cut (Nat.le_refl _); simp only [World.size_alloc] at UX1
  clear ho
  clear ht hb
  go_wp2_with fail
  refine (iAlike_any _ _ _ _ _ _ _ _ _ hn0 (X0_7.rd.below (by repeat (first | exact Below.refl _ _ | assumption | refine Below.alloc ?_ (by first | exact Nat.le_refl _ | (simp only [World.size_alloc, World.size_setCell, World.size_drew]; omega) | omega) _ | refine Below.setCell ?_ (by first | exact Nat.le_refl _ | (simp only [World.size_alloc, World.size_setCell, World.size_drew]; omega) | omega) _ | refine Below.drew ?_))) hn1 (X1_7.rd.below (by repeat (first | exact Below.refl _ _ | assumption | refine Below.alloc ?_ (by first | exact Nat.le_refl _ | (simp only [World.size_alloc, World.size_setCell, World.size_drew]; omega) | omega) _ | refine Below.setCell ?_ (by first | exact Nat.le_refl _ | (simp only [World.size_alloc, World.size_setCell, World.size_drew]; omega) | omega) _ | refine Below.drew ?_)))).mono ?_
  rintro e w8 ⟨rfl, hb⟩
  have ht : Below w7.heap.size w7 w8 := Below.trans (by repeat (first | exact Below.refl _ _ | assumption | refine Below.alloc ?_ (by first | exact Nat.le_refl _ | (simp only [World.size_alloc, World.size_setCell, World.size_drew]; omega) | omega) _ | refine Below.setCell ?_ (by first | exact Nat.le_refl _ | (simp only [World.size_alloc, World.size_setCell, World.size_drew]; omega) | omega) _ | refine Below.drew ?_)) (hb.mono (by first | (simp only [World.size_alloc, World.size_setCell, World.size_drew]; omega) | omega))
  have z8 : w7.heap.size ≤ w8.heap.size := ht.size
  have bw8 : Below w.heap.size w w8 := bw7.trans (ht.mono bw7.size)
  have A0_8 := A0_7.below ht
  have A1_8 := A1_7.below ht
  have BX0_8 := BX0_7.below ht
  have BX1_8 : Box2 w8 w7.heap.size (.int .i64 n1) (.slice pX1 xs1.length qX1) := (Box2.new w7 _ _ 28).below hb
  have ⟨zA0_8, cA0_8, dA0_8⟩ := A0_8
  have ⟨zA1_8, cA1_8, dA1_8⟩ := A1_8
  have ⟨zBX0_8, cBX0_8, dBX0_8⟩ := BX0_8
  have ⟨zBX1_8, cBX1_8, dBX1_8⟩ := BX1_8
  have X0_8 := X0_7.below ht (Nat.le_refl _)
  have X1_8 := X1_7.below ht (Nat.le_refl _)
  clear A0_7 cA0_7 dA0_7 A1_7 cA1_7 dA1_7 BX0_7 cBX0_7 dBX0_7 X0_7 X1_7
  clear ht hb
  go_wp2_with fail
  go_region_held3 (fun w' => w'.cell? ⟨w.heap.size, 0, none⟩ = some (.int .i64 n0) ∧ w'.cell? ⟨w.heap.size, 1, none⟩ = some (.slice a0 xs0.length cap0) ∧ w'.cell? ⟨w6.heap.size, 0, none⟩ = some (.int .i64 n0) ∧ w'.cell? ⟨w6.heap.size, 1, none⟩ = some (.slice pX0 xs0.length qX0))
    (first | exact ⟨P10.2.1, P10.2.2, Q10.2.1, Q10.2.2⟩ | exact ⟨P9.2.1, P9.2.2, Q9.2.1, Q9.2.2⟩ | go_keep)
    (first | (go_at_call 15; refine (toOrder_any _ _ _ _ _ (hx0.below (bw8.trans (Joins.below_draws _ _ _))) (by omega)).mono ?_; rintro e w9 ⟨a9', cap9', rfl, ho9, hb9⟩; have ht9 : Below w8.heap.size w8 w9 := (Joins.below_draws _ _ _).trans hb9; have P9 := A0_8.below ht9; have Q9 := BX0_8.below ht9) | (go_at_call 17; refine (eqOrder_any _ _ _ _ xs0 xs0 _ _ _ (X0_8.rd.below ht9) ho9.rd).mono ?_; rw [eqO_refl]; rintro e w10 ⟨rfl, hb10⟩; have P10 := P9.below hb10; have Q10 := Q9.below hb10))
  have ht : Below w8.heap.size w8 w10 := ht9.trans (hb10.mono ht9.size)
  have z10 : w8.heap.size ≤ w10.heap.size := ht.size
  have bw10 : Below w.heap.size w w10 := bw8.trans (ht.mono bw8.size)
  clear P9 Q9 P10 Q10 ho9
  have A0_10 := A0_8.below ht
  have A1_10 := A1_8.below ht
  have BX0_10 := BX0_8.below ht
  have BX1_10 := BX1_8.below ht
  have ⟨zA0_10, cA0_10, dA0_10⟩ := A0_10
  have ⟨zA1_10, cA1_10, dA1_10⟩ := A1_10
  have ⟨zBX0_10, cBX0_10, dBX0_10⟩ := BX0_10
  have ⟨zBX1_10, cBX1_10, dBX1_10⟩ := BX1_10
  have X0_10 := X0_8.below ht (Nat.le_refl _)
  have X1_10 := X1_8.below ht (Nat.le_refl _)
  clear A0_8 cA0_8 dA0_8 A1_8 cA1_8 dA1_8 BX0_8 cBX0_8 dBX0_8 BX1_8 cBX1_8 dBX1_8 X0_8 X1_8
  clear ht hb10 ht9 hb9
  go_wp2_with fail
  go_region_held3 (fun w' => w'.cell? ⟨(w.heap.size + 1), 0, none⟩ = some (.int .i64 n1) ∧ w'.cell? ⟨(w.heap.size + 1), 1, none⟩ = some (.slice a1 xs1.length cap1) ∧ w'.cell? ⟨w7.heap.size, 0, none⟩ = some (.int .i64 n1) ∧ w'.cell? ⟨w7.heap.size, 1, none⟩ = some (.slice pX1 xs1.length qX1))
    (first | exact ⟨P12.2.1, P12.2.2, Q12.2.1, Q12.2.2⟩ | exact ⟨P11.2.1, P11.2.2, Q11.2.1, Q11.2.2⟩ | go_keep)
    (first | (go_at_call 15; refine (toOrder_any _ _ _ _ _ (hx1.below (bw10.trans (Joins.below_draws _ _ _))) (by omega)).mono ?_; rintro e w11 ⟨a11', cap11', rfl, ho11, hb11⟩; have ht11 : Below w10.heap.size w10 w11 := (Joins.below_draws _ _ _).trans hb11; have P11 := A1_10.below ht11; have Q11 := BX1_10.below ht11) | (go_at_call 17; refine (eqOrder_any _ _ _ _ xs1 xs1 _ _ _ (X1_10.rd.below ht11) ho11.rd).mono ?_; rw [eqO_refl]; rintro e w12 ⟨rfl, hb12⟩; have P12 := P11.below hb12; have Q12 := Q11.below hb12))
  have ht : Below w10.heap.size w10 w12 := ht11.trans (hb12.mono ht11.size)
  have z12 : w10.heap.size ≤ w12.heap.size := ht.size
  have bw12 : Below w.heap.size w w12 := bw10.trans (ht.mono bw10.size)
  clear P11 Q11 P12 Q12 ho11
  have A0_12 := A0_10.below ht
  have A1_12 := A1_10.below ht
  have BX0_12 := BX0_10.below ht
  have BX1_12 := BX1_10.below ht
  have ⟨zA0_12, cA0_12, dA0_12⟩ := A0_12
  have ⟨zA1_12, cA1_12, dA1_12⟩ := A1_12
  have ⟨zBX0_12, cBX0_12, dBX0_12⟩ := BX0_12
  have ⟨zBX1_12, cBX1_12, dBX1_12⟩ := BX1_12
  have X0_12 := X0_10.below ht (Nat.le_refl _)
  have X1_12 := X1_10.below ht (Nat.le_refl _)
  clear A0_10 cA0_10 dA0_10 A1_10 cA1_10 dA1_10 BX0_10 cBX0_10 dBX0_10 BX1_10 cBX1_10 dBX1_10 X0_10 X1_10
  clear ht hb12 ht11 hb11
  go_wp2_with fail
  go_ret
  exact ⟨rfl, bw12⟩

theorem rd_of_trod {H : Type} {enc : TypeId × Value → H} {W : World} {fuel : Nat} {c : Value} {y : DataW H × List MemPlace}
    (h : DataW.trod enc Try.prog W 0 (fun _ => true) true fuel 22 [c] = some y) : ∃ (a : Option Addr) (xs : List Int) (cap : Nat), c = .slice a xs.length cap ∧ Rd W a xs ∧ ∀ k, k < xs.length → (Lit.int .i64 (nth xs k)).wf = true := by
  rcases Go.ChangeShapes.open_ints Try.underlying22 Try.underlying3 (by kernel_rfl) h with ⟨hcs, _⟩ | ⟨x, len, cap, zs, hcs, _, hl, hm, hz, _, hcell, hwf⟩
  · simp only [List.cons.injEq, and_true] at hcs
    exact ⟨none, [], 0, hcs, ⟨by simp, fun k hk => by simp at hk⟩, fun k hk => by simp at hk⟩
  · simp only [List.cons.injEq, and_true] at hcs
    simp only [if_true] at hz
    have hlen : (zs.take len).length = len := by rw [List.length_take]; omega
    have hn : ∀ k, k < len → nth (zs.take len) k = zs.getD k 0 := by
      intro k hk
      simp only [nth, List.getD_eq_getElem?_getD, List.getElem?_take, hk, if_true]
    refine ⟨some x, zs.take len, cap, by rw [hlen]; exact hcs, ⟨by rw [hlen]; unfold maxLen at hm; omega, fun k hk => ?_⟩, fun k hk => ?_⟩
    · rw [hlen] at hk
      obtain ⟨b, off, sp⟩ := x
      have h0 := hcell 0 (by omega)
      have hsp : sp = none := by simpa [Addr.add] using World.cell?_spot h0
      subst hsp
      have hk' := hcell k (by omega)
      rw [Addr.add_lit] at hk'
      exact ⟨b, off, rfl, World.block_lt_of_cell? _ _ h0, by rw [hk', hn k hk]⟩
    · rw [hlen] at hk
      rw [hn k hk]
      have hk2 : k < zs.length := by omega
      exact hwf _ (by rw [List.getD_eq_getElem?_getD, List.getElem?_eq_getElem hk2]; exact List.getElem_mem hk2)

theorem own : ownKnob Try.prog.godebug = none := by kernel_rfl
theorem laidOut : laidOutB Try.prog = true := by kernel_rfl
theorem wf_bd {n : Int} (h : (Lit.int .i64 n).wf = true) : -9223372036854775808 ≤ n ∧ n ≤ 9223372036854775807 := by
  simp [Lit.wf, IntKind.min, IntKind.max, IntKind.bits, IntKind.signed] at h
  omega

theorem cellsO : Try.prog.cellsOf 24 = 2 := by kernel_rfl

open Go.ChangeShapes Go.WideShapes Go.ChangeAt Go.RowKit in
set_option maxRecDepth 100000 in
theorem lifted (os : Os) (started : os.Started) (H : Type) (enc : TypeId × Value → H) :
    ReturnsInHanded {} Try.checked os 8 .any (Rows.fnExactAreAlikeSpec.pre6 enc Try.prog Try.f8 Rows.fnExactAreAlikeRow.domain false) (Rows.fnExactAreAlikeSpec.post enc Try.prog Try.f8 false true false false) := by
  refine returnsInHanded_of_change (C := Try.checked) own started (by kernel_rfl) Try.func8
    (ChangeSpec.witness6 (enc := enc) (C := Try.checked) false ⟨#[], #[.agg #[.int .i64 0, .slice none 0 0], .agg #[.int .i64 0, .slice none 0 0]], []⟩ 8 (by kernel_rfl) (by kernel_rfl) (by kernel_rfl) (by kernel_rfl)) ?_
  intro W base args ds gs before hval0 hW hcnd _
  have hval : ∀ (j : Nat) t v, Try.f8.params[j]? = some t → args[j]? = some v → Value.okWide Try.prog W .any base t v := hval0
  have hW' := hW
  obtain ⟨p, q, hA0, hV, rfl, hfz, hnd⟩ := hW
  have hA : DataW.TrodAll enc Try.prog W 0 (fun _ => true) true Try.f8.params.toList args.toList ds p := hA0
  rw [Try.params8] at hA hval
  obtain ⟨v0, vs0, d0, ds0, p0, q0, hargs, rfl, rfl, h0, r0⟩ := trodAll_cons hA
  obtain ⟨v1, vs1, d1, ds1, p1, q1, rfl, rfl, rfl, h1, r1⟩ := trodAll_cons r0
  obtain ⟨rfl, rfl, rfl⟩ := trodAll_nil r1
  obtain rfl : args = #[v0, v1] := by cases args; simp_all
  obtain ⟨rfl, rfl⟩ := trodVars_none hV
  have lt0 : ∀ x ∈ p0, x.block < W.heap.size := by obtain ⟨m, hm⟩ := h0; exact DataW.trod_lt m _ _ _ hm
  have lt1 : ∀ x ∈ p1, x.block < W.heap.size := by obtain ⟨m, hm⟩ := h1; exact DataW.trod_lt m _ _ _ hm
  obtain ⟨c00, c01, y00, y01, m0, rfl, hd0, hp0, hy00, hy01⟩ := Go.Joins.open_agg2 Try.underlying24 (by kernel_rfl) cellsO (hval 0 24 v0 rfl rfl) h0
  obtain ⟨n0, e00, _, wf0⟩ := DataW.trod_int Try.underlying3 hy00
  simp only [List.cons.injEq, and_true] at e00
  subst e00
  obtain ⟨a0, xs0, cap0, rfl, rd0, wl0⟩ := rd_of_trod hy01
  obtain ⟨c10, c11, y10, y11, m1, rfl, hd1, hp1, hy10, hy11⟩ := Go.Joins.open_agg2 Try.underlying24 (by kernel_rfl) cellsO (hval 1 24 v1 rfl rfl) h1
  obtain ⟨n1, e10, _, wf1⟩ := DataW.trod_int Try.underlying3 hy10
  simp only [List.cons.injEq, and_true] at e10
  subst e10
  obtain ⟨a1, xs1, cap1, rfl, rd1, wl1⟩ := rd_of_trod hy11
  clear hA0 hval0
  refine (walk n0 a0 xs0 cap0 n1 a1 xs1 cap1 W (wf_bd wf0) rd0 (wf_bd wf1) rd1).mono fun e W' ⟨he, bel⟩ => ?_
  subst he
  exact ⟨_, rfl, _, _, _, [], _, [], hW', trodAll_mk1 (shut_bool Try.underlying4 _), (trodAll_cons_mk (Below.trod laidOut (by kernel_rfl) (of_decide_eq_true (by kernel_rfl)) h0 bel lt0) (trodAll_cons_mk (Below.trod laidOut (by kernel_rfl) (of_decide_eq_true (by kernel_rfl)) h1 bel lt1) trodAll_mk0)), rfl, bel.frame _, fun h => by cases h⟩
theorem proved : Rows.FnExactAreAlikeSaid :=
  OpenClaim.holds_of_wide 8 Try.f8 rfl rfl rfl rfl rfl rfl rfl ⟨rfl, rfl, rfl, rfl, rfl⟩ rfl rfl rfl rfl rfl (by kernel_rfl) Try.func8 (by kernel_rfl)
    (of_decide_eq_true (by kernel_rfl)) (by unfold Func.isWrapper; first | (rw [if_pos (by decide +kernel)]; kernel_rfl) | (rw [if_neg (by decide +kernel)]; exact ⟨rfl, rfl⟩))
    (fun os started H enc _ => lifted os started H enc)

end Go.Proofs.Ytpenikceoogmgaa.areAlike
