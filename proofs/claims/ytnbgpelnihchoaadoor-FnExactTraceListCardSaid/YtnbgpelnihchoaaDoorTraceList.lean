/- PROVED: the law FnExactTraceList returns true for every input, and each of its arguments reads afterwards as before. No conditions. -/
import Derived.Test.YtnbgpelnihchoaaDoorRows
import Derived.WalkKit
import Derived.WalkSpells
import Derived.WalkLawsBesides
import Derived.Deep.QuietTactic
import Derived.BigQuiet
import Derived.ProofKit
import Derived.OpenShut
import Derived.ShutString
import Derived.ChangeOld
import Derived.Below
import Derived.Lib.SmallJoins
import Derived.Lib.Hide
import Derived.Deep.RegionHeld3
import Derived.LaidMore
import Derived.Stop.Joined
import Derived.WalkMore
import Derived.Sort.OwnSortedInts
import Derived.Shelf.SlSortCmp.NoneTotal
import Derived.Shelf.Small.Bits
import Derived.Shelf.Small.Wraps
import Derived.Shelf.Strconv.Itoa0
import Derived.Shelf.Sort.Plain
import Derived.Shelf.Slices.Clone
import Derived.Shelf.Slices.SearchI
import Derived.Shelf.Slices.In.SortNone
import Derived.Shelf.SlicesE.Clone
import Derived.Shelf.SlSortCmp.Insertion
import Derived.Shelf.SlSortCmp.SiftDown1
import Derived.Shelf.SlSortCmp.HeapSort1
import Derived.Shelf.SlSortCmp.Insertion1
import Derived.Shelf.SlSortCmp.Median1
import Derived.Shelf.SlSortCmp.Pivot1
import Derived.Shelf.SlSortCmp.ReverseRange1
import Derived.Shelf.SlSortCmp.PartialInsertion1
import Derived.Shelf.SlSortCmp.PartitionEqual1
import Derived.Shelf.SlSortCmp.Partition1
import Derived.Shelf.SlSortCmp.Pdq1
import Derived.Shelf.SlSortCmp.Whole1
import Derived.Test.YtnbgpelnihchoaaDoorTie
import Derived.Test.YtnbgpelnihchoaaDoorCards
import Derived.SevenTiedAt
import Derived.Test.YtnbgpelnihchoaaDoorTraceListP1
namespace Go.Proofs.YtnbgpelnihchoaaDoor.traceList
open Go Go.RowKit
set_option linter.unusedVariables false
set_option linter.unusedSimpArgs false
set_option maxHeartbeats 400000
open Go.Shelf
/-- the pairs of the first k elements and those of k with the first m refuse nothing -/
def NoTwo (xs : List Int) (k m : Nat) : Prop := (∀ a, a < k → ∀ b, b < xs.length → pairF xs a b = none) ∧ ∀ b, b < m → pairF xs k b = none
theorem pairF_no {xs : List Int} {a b : Nat} (h : hasB (nth xs a) b = false) : pairF xs a b = none := by simp [pairF, h]
theorem pairF_none {xs : List Int} {a b : Nat} (h : secF xs a b = none) : pairF xs a b = none := by simp [pairF, h]
theorem NoTwo.next {xs : List Int} {k m : Nat} (h : NoTwo xs k m) (h1 : pairF xs k m = none) : NoTwo xs k (m+1) :=
  ⟨h.1, fun b hb => by
    by_cases e : b = m
    · rw [e]; exact h1
    · exact h.2 b (by omega)⟩
theorem NoTwo.row {xs : List Int} {k : Nat} (h : NoTwo xs k xs.length) : NoTwo xs (k+1) 0 :=
  ⟨fun a ha b hb => by
    by_cases e : a = k
    · rw [e]; exact h.2 b hb
    · exact h.1 a (by omega) b hb, fun b hb => by omega⟩
theorem NoTwo.none {xs : List Int} {m : Nat} (h : NoTwo xs xs.length m) : twoF xs = none := find1_none (fun a ha => find1_none (fun b hb => h.1 a ha b hb))
theorem NoTwo.some {xs : List Int} {k m : Nat} {ys : List Int} (h : NoTwo xs k m) (hk : k < xs.length) (hm : m < xs.length) (h1 : pairF xs k m = .some ys) : twoF xs = .some ys :=
  find1_some hk (find1_some hm h1 (fun b hb => h.2 b hb)) (fun a ha => find1_none (fun b hb => h.1 a ha b hb))
theorem iTwoTwo_any (n : Int) (a : Option Addr) (xs : List Int) (cap : Nat) (w : World) (hn : -9223372036854775808 ≤ n ∧ n ≤ 9223372036854775807) (hx : Rd w a xs) :
    Calls Tryd.prog 78 #[.agg #[.int .i64 n, .slice a xs.length cap]] w fun e w' => ∃ a' cap', e = .returned (.tuple #[.slice a' (twoL n xs).length cap', .bool (twoB n xs)]) ∧ OwnI w' w.heap.size (.slice a' (twoL n xs).length cap') (twoL n xs) ∧ Below w.heap.size w w' := by
  have hx1 := hx.alloc (.cells #[.int .i64 n, .slice a xs.length cap] 28)
  cases hr : ordB n xs
  · have H1 : Hid (twoL n xs = []) := by simp [Hid, twoL, hr]
    have H2 : Hid (twoB n xs = false) := by simp [Hid, twoB, hr]
    go_enter Tryd.func78, Tryd.ntmps78
    go_wp2_with fail
    refine (iIsOrder_any _ _ _ _ _ hn hx1).mono ?_
    rw [hr]
    rintro e w1 ⟨rfl, hb1⟩
    have bw1 : Below w.heap.size w w1 := Below.trans (by repeat (first | exact Below.refl _ _ | assumption | refine Below.alloc ?_ (by first | exact Nat.le_refl _ | (simp only [World.size_alloc, World.size_setCell, World.size_drew]; omega) | omega) _ | refine Below.setCell ?_ (by first | exact Nat.le_refl _ | (simp only [World.size_alloc, World.size_setCell, World.size_drew]; omega) | omega) _ | refine Below.drew ?_)) (hb1.mono (by first | (simp only [World.size_alloc, World.size_setCell, World.size_drew]; omega) | omega))
    go_wp2_with fail
    refine bodyPost_ret (v := .tuple #[.slice none 0 0, .bool false]) (by simp [results, Tryd.results78, go_sem]) rfl ?_
    exact ⟨none, 0, by rw [H1.out, H2.out]; rfl, by rw [H1.out]; exact OwnI.nil _ _, bw1⟩
  · have hp := ord_rel hr
    have hl10 : xs.length ≤ 10 := by have := hp.len; have := hp.n1; omega
    have HR := Lib.hid hr
    obtain rfl : n = (xs.length : Int) := hp.len.symm
    clear hr
    go_enter Tryd.func78, Tryd.ntmps78
    go_wp2_with fail
    refine (iIsOrder_any _ _ _ _ _ hn hx1).mono ?_
    rw [HR.out]
    rintro e w1 ⟨rfl, hb1⟩
    have A1 : Box2 w1 w.heap.size (.int .i64 (xs.length : Int)) (.slice a xs.length cap) := (Box2.new w _ _ _).below hb1
    have bw1 : Below w.heap.size w w1 := Below.trans (by repeat (first | exact Below.refl _ _ | assumption | refine Below.alloc ?_ (by first | exact Nat.le_refl _ | (simp only [World.size_alloc, World.size_setCell, World.size_drew]; omega) | omega) _ | refine Below.setCell ?_ (by first | exact Nat.le_refl _ | (simp only [World.size_alloc, World.size_setCell, World.size_drew]; omega) | omega) _ | refine Below.drew ?_)) (hb1.mono (by first | (simp only [World.size_alloc, World.size_setCell, World.size_drew]; omega) | omega))
    have ⟨zA, cA, dA⟩ := A1
    clear hb1
    go_wp2_with fail
    clear cA dA
    go_loopw [14] (fun i' wr => ∃ k : Nat, k ≤ xs.length ∧ i' = .int .i64 k ∧ NoTwo xs k 0 ∧ Below w.heap.size w wr ∧ Box2 wr w.heap.size (.int .i64 (xs.length : Int)) (.slice a xs.length cap)) (fun i' _ => xs.length - (intOf i').toNat)
    case atStart => exact ⟨0, Nat.zero_le _, rfl, ⟨fun c hc => by omega, fun b hb => by omega⟩, bw1, A1⟩
    case round =>
      obtain ⟨k, hk, rfl, hall, hb, hB⟩ := hrel
      obtain ⟨wo, rfl⟩ : ∃ wo : World, wo = wr := ⟨_, rfl⟩
      have ⟨zr, cr, dr⟩ := hB
      have HA := Lib.hid hall
      clear hall
      by_cases hlt : k < xs.length
      · have pk := hp.pos k hlt
        have sk : nth xs k ≤ 9223372036854775807 := by have := hp.small k hlt; omega
        have k0 : (0 : Int) ≤ (k : Int) := by omega
        have k1 : (k : Int) < (xs.length : Int) := by omega
        go_wp2_with fail
        clear cr dr
        go_loopw [19] (fun i' wr => ∃ m : Nat, m ≤ xs.length ∧ i' = .int .i64 m ∧ NoTwo xs k m ∧ Below w.heap.size w wr ∧ Box2 wr w.heap.size (.int .i64 (xs.length : Int)) (.slice a xs.length cap)) (fun i' _ => xs.length - (intOf i').toNat)
        case atStart => exact ⟨0, Nat.zero_le _, rfl, HA.out, hb, hB⟩
        case round =>
          obtain ⟨m, hm, rfl, hall2, hb2, hB2⟩ := hrel
          have ⟨zr2, cr2, dr2⟩ := hB2
          have HA2 := Lib.hid hall2
          clear hall2
          by_cases hlt2 : m < xs.length
          · obtain ⟨b, off, rfl, hbl, hck⟩ := (hx.below hb2).cell k hlt
            have m0 : (0 : Int) ≤ (m : Int) := by omega
            have m1 : (m : Int) < (xs.length : Int) := by omega
            cases h1 : hasB (nth xs k) m
            · have hfin := Lib.hid (HA2.out.next (pairF_no h1))
              go_wp2_with (go_at_call 43; refine (hasElement_any _ _ _ (by assumption) (by assumption) (by assumption)).mono ?_; rintro e w' ⟨rfl, rfl⟩)
              go_roundw
              case rel => exact ⟨m + 1, by omega, by go_num, hfin.out, hb2, hB2⟩
              case measure => simp [intOf]; omega
            · have HX := Lib.hid h1
              go_wp2_with (go_at_call 43; refine (hasElement_any _ _ _ (by assumption) (by assumption) (by assumption)).mono ?_; rintro e w' ⟨rfl, rfl⟩)
              clear h1
              refine (secondPair_any _ _ _ _ _ _ _ (hx.below hb2) hp hlt).mono ?_
              cases hs : secF xs k m with
              | none =>
                have hfin := Lib.hid (HA2.out.next (pairF_none hs))
                have e1 : sec1 xs k m = 0 := by simp only [sec1, hs]
                have e2 : sec2 xs k m = 0 := by simp only [sec2, hs]
                rw [e1, e2]
                simp only [Option.isSome_none]
                clear hs e1 e2
                rintro e w3 ⟨rfl, hb3⟩
                have B3 := hB2.below hb3
                have bw3 := hb2.trans (hb3.mono hb2.size)
                go_wp2_with fail
                go_roundw
                case rel => exact ⟨m + 1, by omega, by go_num, hfin.out, bw3, B3⟩
                case measure => simp [intOf]; omega
              | some p =>
                have hp2 : pairF xs k m = some [(k : Int), (m : Int), (p.1 : Int), (p.2 : Int)] := by simp only [pairF, HX.out, hs]; rfl
                have ht := HA2.out.some hlt hlt2 hp2
                have H1 : Hid (twoL (xs.length : Int) xs = [(k : Int), (m : Int), (p.1 : Int), (p.2 : Int)]) := by simp only [Hid, twoL, HR.out, ht]; rfl
                have H2 : Hid (twoB (xs.length : Int) xs = true) := by simp only [Hid, twoB, HR.out, ht]; rfl
                have e1 : sec1 xs k m = (p.1 : Int) := by simp only [sec1, hs]
                have e2 : sec2 xs k m = (p.2 : Int) := by simp only [sec2, hs]
                rw [e1, e2]
                simp only [Option.isSome_some]
                clear hs e1 e2 hp2 ht
                rintro e w3 ⟨rfl, hb3⟩
                have bw3 := hb2.trans (hb3.mono hb2.size)
                go_wp2_with fail
                refine bodyPost_ret (v := .tuple #[.slice (some ⟨w3.heap.size, 0, none⟩) 4 4, .bool true]) (by simp [results, Tryd.results78, go_sem]) rfl ?_
                refine ⟨some ⟨w3.heap.size, 0, none⟩, 4, by rw [H1.out, H2.out]; rfl, ?_, bw3.alloc bw3.size _⟩
                rw [H1.out]
                exact (OwnI.new w3 [(k : Int), (m : Int), (p.1 : Int), (p.2 : Int)] (by simp)).mono bw3.size
          · obtain rfl : m = xs.length := by omega
            have hfin := Lib.hid HA2.out.row
            go_wp2_with fail
            go_roundw
            case rel => exact ⟨k + 1, by omega, by go_num, hfin.out, hb2, hB2⟩
            case measure => simp [intOf]; omega
      · obtain rfl : k = xs.length := by omega
        have ht := HA.out.none
        have H1 : Hid (twoL (xs.length : Int) xs = []) := by simp only [Hid, twoL, HR.out, ht]; rfl
        have H2 : Hid (twoB (xs.length : Int) xs = false) := by simp only [Hid, twoB, HR.out, ht]; rfl
        clear ht
        go_wp2_with fail
        refine bodyPost_ret (v := .tuple #[.slice none 0 0, .bool false]) (by simp [results, Tryd.results78, go_sem]) rfl ?_
        exact ⟨none, 0, by rw [H1.out, H2.out]; rfl, by rw [H1.out]; exact OwnI.nil _ _, hb⟩

theorem ret_bb {a b c d : Bool} (h : a = b) (h2 : c = d) : Ending.returned (.tuple #[.bool a, .bool c]) = .returned (.tuple #[.bool b, .bool d]) := by rw [h, h2]
theorem ret_ib {a b : Int} {c d : Bool} (h : a = b) (h2 : c = d) : Ending.returned (.tuple #[.int .i64 a, .bool c]) = .returned (.tuple #[.int .i64 b, .bool d]) := by rw [h, h2]

def isIv (n : Int) (xs : List Int) : Bool := ordB n xs && !(twoF xs).isSome
theorem iIsInterval_any (n : Int) (a : Option Addr) (xs : List Int) (cap : Nat) (w : World) (hn : -9223372036854775808 ≤ n ∧ n ≤ 9223372036854775807) (hx : Rd w a xs) :
    Calls Tryd.prog 47 #[.agg #[.int .i64 n, .slice a xs.length cap]] w fun e w' => e = .returned (.tuple #[.bool (isIv n xs), .bool (ordB n xs)]) ∧ Below w.heap.size w w' := by
  have hx1 := hx.alloc (.cells #[.int .i64 n, .slice a xs.length cap] 28)
  cases hr : ordB n xs
  · have H1 : Hid (isIv n xs = false) := by simp [Hid, isIv, hr]
    go_enter Tryd.func47, Tryd.ntmps47
    go_wp2_with fail
    refine (iIsOrder_any _ _ _ _ _ hn hx1).mono ?_
    rw [hr]
    rintro e w1 ⟨rfl, hb1⟩
    have bw1 : Below w.heap.size w w1 := Below.trans (by repeat (first | exact Below.refl _ _ | assumption | refine Below.alloc ?_ (by first | exact Nat.le_refl _ | (simp only [World.size_alloc, World.size_setCell, World.size_drew]; omega) | omega) _ | refine Below.setCell ?_ (by first | exact Nat.le_refl _ | (simp only [World.size_alloc, World.size_setCell, World.size_drew]; omega) | omega) _ | refine Below.drew ?_)) (hb1.mono (by first | (simp only [World.size_alloc, World.size_setCell, World.size_drew]; omega) | omega))
    go_wp2_with fail
    go_ret2
    exact ⟨ret_bb H1.out.symm rfl, bw1⟩
  · have H1 : Hid (isIv n xs = !(twoF xs).isSome) := by simp [Hid, isIv, hr]
    have H2 : Hid (twoB n xs = (twoF xs).isSome) := by simp [Hid, twoB, hr]
    go_enter Tryd.func47, Tryd.ntmps47
    go_wp2_with fail
    refine (iIsOrder_any _ _ _ _ _ hn hx1).mono ?_
    rw [hr]
    rintro e w1 ⟨rfl, hb1⟩
    have A1 : Box2 w1 w.heap.size (.int .i64 n) (.slice a xs.length cap) := (Box2.new w _ _ _).below hb1
    have bw1 : Below w.heap.size w w1 := Below.trans (by repeat (first | exact Below.refl _ _ | assumption | refine Below.alloc ?_ (by first | exact Nat.le_refl _ | (simp only [World.size_alloc, World.size_setCell, World.size_drew]; omega) | omega) _ | refine Below.setCell ?_ (by first | exact Nat.le_refl _ | (simp only [World.size_alloc, World.size_setCell, World.size_drew]; omega) | omega) _ | refine Below.drew ?_)) (hb1.mono (by first | (simp only [World.size_alloc, World.size_setCell, World.size_drew]; omega) | omega))
    have ⟨zA, cA, dA⟩ := A1
    clear hb1 hr
    go_wp2_with fail
    refine (iTwoTwo_any _ _ _ _ _ hn (hx.below bw1)).mono ?_
    rintro e w2 ⟨a2, cap2, rfl, ho2, hb2⟩
    clear ho2
    go_wp2_with fail
    go_ret2
    exact ⟨ret_bb (by rw [H1.out, H2.out]) rfl, bw1.trans (hb2.mono bw1.size)⟩

theorem sem_eq {n : Int} {xs : List Int} : semB n xs = (isIv n xs && !(thrO n xs)) := by
  unfold semB isIv thrO
  cases h : ordB n xs
  · simp
  · rw [tw_two h]
    cases (twoF xs).isSome <;> cases (thrF xs).isSome <;> rfl
theorem iSemi_any (n : Int) (a : Option Addr) (xs : List Int) (cap : Nat) (w : World) (hn : -9223372036854775808 ≤ n ∧ n ≤ 9223372036854775807) (hx : Rd w a xs) (hT : TabOk w) :
    Calls Tryd.prog 22 #[.agg #[.int .i64 n, .slice a xs.length cap]] w fun e w' => e = .returned (.tuple #[.bool (semB n xs), .bool (ordB n xs)]) ∧ Below w.heap.size w w' := by
  have hx1 := hx.alloc (.cells #[.int .i64 n, .slice a xs.length cap] 28)
  have HE := Lib.hid (sem_eq (n := n) (xs := xs))
  go_enter Tryd.func22, Tryd.ntmps22
  go_wp2_with fail
  refine (iIsInterval_any _ _ _ _ _ hn hx1).mono ?_
  rintro e w1 ⟨rfl, hb1⟩
  have A1 : Box2 w1 w.heap.size (.int .i64 n) (.slice a xs.length cap) := (Box2.new w _ _ _).below hb1
  have bw1 : Below w.heap.size w w1 := Below.trans (by repeat (first | exact Below.refl _ _ | assumption | refine Below.alloc ?_ (by first | exact Nat.le_refl _ | (simp only [World.size_alloc, World.size_setCell, World.size_drew]; omega) | omega) _ | refine Below.setCell ?_ (by first | exact Nat.le_refl _ | (simp only [World.size_alloc, World.size_setCell, World.size_drew]; omega) | omega) _ | refine Below.drew ?_)) (hb1.mono (by first | (simp only [World.size_alloc, World.size_setCell, World.size_drew]; omega) | omega))
  have ⟨zA, cA, dA⟩ := A1
  clear hb1
  go_wp2_with fail
  refine (iThree_any _ _ _ _ _ hn (hx.below bw1) (hT.below bw1)).mono ?_
  rintro e w2 ⟨a2, c2, rfl, ho2, hb2⟩
  have bw2 := bw1.trans (hb2.mono bw1.size)
  clear ho2 hb2
  cases h1 : isIv n xs
  · have HF : Hid (semB n xs = false) := by rw [Hid, HE.out, h1]; rfl
    go_wp2_with fail
    go_ret2
    exact ⟨ret_bb HF.out.symm rfl, bw2⟩
  · have HF : Hid (semB n xs = !thrO n xs) := by rw [Hid, HE.out, h1]; rfl
    go_wp2_with fail
    go_ret2
    exact ⟨ret_bb (by rw [HF.out]) rfl, bw2⟩

theorem belowSets_any (n : Int) (a : Option Addr) (xs : List Int) (cap : Nat) (w : World) (hx : Rd w a xs) (hr : RelP n xs) :
    Calls Tryd.prog 49 #[.agg #[.int .i64 n, .slice a xs.length cap]] w fun e w' => ∃ a' cap', e = .returned (.slice a' xs.length cap') ∧ OwnI w' w.heap.size (.slice a' xs.length cap') (belows xs xs.length) ∧ Below w.heap.size w w' := by
  obtain ⟨i0, hi, hz0, hz1, hz2⟩ := info_parts infoInt
  have hn0 := hr.n0
  have hn1 := hr.n1
  obtain rfl : n = (xs.length : Int) := hr.len.symm
  have hn : xs.length ≤ 10 := by omega
  go_enter Tryd.func49, Tryd.ntmps49
  go_wp2_with (at_make; refine wpList_make_full _ rfl (.tmp 6) (.tmp 6) 22 rfl (w.heap.size + 1) 3 i0 (.int .i64 0) 1 Tryd.underlying22 hi hz0 hz1 .i64 .i64 _ _ xs.length rfl rfl rfl rfl (by rw [hz2]; omega) (by unfold maxLen; omega) (by simp) ?_; intro w1 hown hgrow)
  have hb0 : Below w.heap.size w w1 := ((Below.refl _ _).alloc (Nat.le_refl _) _).grown hgrow (by simp) (fun k h => by cases h)
  have hown0 := made_ints (fun i => ((belowTo xs i xs.length : Nat) : Int)) hown
  have B1 : Box2 w1 w.heap.size (.int .i64 (xs.length : Int)) (.slice a xs.length cap) := (Box2.new w _ _ _).kept hgrow (by simp)
  have hx1 : Rd w1 a xs := hx.below hb0
  clear hown hgrow
  simp only [World.size_alloc] at *
  have hz : w.heap.size + 1 < w1.heap.size := by
    have := (World.ownsRow.lt hown0 (w.heap.size + 1) rfl).2
    omega
  go_wp2_with fail
  go_loopw [10] (fun i wr => ∃ k : Nat, k ≤ xs.length ∧ i = .int .i64 k ∧ wr.ownsRow (w.heap.size + 1) 3 1 (.slice (some ⟨w.heap.size + 1, 0, none⟩) xs.length xs.length) xs.length ((fmap (fun i => ((belowTo xs i xs.length : Nat) : Int)) k ++ List.replicate (xs.length - k) (0:Int)).map (Value.int .i64)) ∧ Below w.heap.size w wr ∧ Box2 wr w.heap.size (.int .i64 (xs.length : Int)) (.slice a xs.length cap)) (fun i _ => xs.length - (intOf i).toNat)
  case atStart => exact ⟨0, Nat.zero_le _, rfl, hown0, hb0, B1⟩
  case round =>
    obtain ⟨k, hk, rfl, hown, hb, hB⟩ := hrel
    have ⟨zr, cr, dr⟩ := hB
    by_cases hlt : k < xs.length
    · go_wp2_with fail
      refine (belowSet_any _ _ _ _ _ _ (hx.below hb) hr (by omega)).mono ?_
      rintro e w2 ⟨rfl, hb2⟩
      have hown2 : w2.ownsRow (w.heap.size + 1) 3 1 (.slice (some ⟨w.heap.size + 1, 0, none⟩) xs.length xs.length) xs.length _ := World.ownsRow.kept hown (below_grown hb2 (Nat.le_refl _) none) (.inr (by simp [Value.ownBlock]))
      have hst := World.ownsRow.stored hown2 k (.int .i64 ((belowTo xs k xs.length : Nat) : Int))
      rw [fill_step (fun i => ((belowTo xs i xs.length : Nat) : Int)) xs.length k hlt] at hst
      have hcc := World.ownsRow.cellAt hown2 k (by omega)
      have hfr := World.ownsRow.frozenAt hown2 k
      have hcc' : ∃ u, w2.cell? ⟨w.heap.size + 1, k, none⟩ = some u := by
        rw [hcc]
        exact ⟨_, List.getElem?_eq_getElem (by simp [fmap_len]; omega)⟩
      obtain ⟨u, hu⟩ := hcc'
      have hB2 := hB.below hb2
      have hB3 := hB2.kept hst.2 (by simp)
      have hbw := hb.trans (hb2.mono hb.size)
      have Hst := Lib.hid hst
      clear hst hcc hown hown2 hb2
      go_wp2_with fail
      go_roundw
      case rel => exact ⟨k + 1, by omega, by go_num, Hst.out.1, hbw.setCell (by simp) _, hB3⟩
      case measure => simp [intOf]; omega
    · obtain rfl : k = xs.length := by omega
      go_wp2_with fail
      go_ret
      rw [fill_end] at hown
      refine ⟨_, _, rfl, OwnI.mono (B := w.heap.size + 1) ?_ (by omega), hb⟩
      show World.ownsRow _ _ _ _ _ _ _
      rw [belows_len]
      exact hown

/-- a row of m integers of which the first k are filled, f 0 .. -/
def rowF (f : Nat → Int) (m k : Nat) : List Int := fmap f k ++ List.replicate (m - k) 0
theorem rowF_len (f : Nat → Int) {m k : Nat} (h : k ≤ m) : (rowF f m k).length = m := by simp [rowF, fmap_len]; omega
theorem rowF_set (f : Nat → Int) {m k : Nat} (h : k < m) : (rowF f m k).set k (f k) = rowF f m (k+1) := by
  apply List.ext_getElem?
  intro j
  rw [List.getElem?_set]
  by_cases hj : k = j
  · subst hj
    rw [if_pos rfl, if_pos (by rw [rowF_len f (by omega)]; exact h), rowF, List.getElem?_append_left (by rw [fmap_len]; omega)]
    simp [fmap]
  · simp only [hj, if_false, rowF, List.getElem?_append, fmap_len, List.getElem?_replicate]
    by_cases h1 : j < k
    · have h2 : j < k + 1 := by omega
      simp [h1, h2, fmap]
    · have h2 : ¬ j < k + 1 := by omega
      have h3 : j - k < m - k ↔ j - (k+1) < m - (k+1) := by omega
      simp [h1, h2, h3]
theorem rowF_zero (f : Nat → Int) {m k : Nat} (h : k < m) : (rowF f m k).set k 0 = rowF f m k := by
  apply List.ext_getElem?
  intro j
  rw [List.getElem?_set]
  by_cases hj : k = j
  · subst hj
    rw [if_pos rfl, if_pos (by rw [rowF_len f (by omega)]; exact h), rowF, List.getElem?_append_right (by rw [fmap_len]; omega)]
    rw [fmap_len, Nat.sub_self, List.getElem?_replicate, if_pos (by omega)]
  · simp [hj]
theorem rowF_end (f : Nat → Int) (m : Nat) : rowF f m m = fmap f m := by simp [rowF]
theorem made_row {w1 : World} {B : Nat} {v : Value} {m : Nat} (f : Nat → Int) (h : w1.ownsRow B 3 1 v m (madeCells (Value.int .i64 0).cells (m * 1)).toList) : OwnI w1 B v (rowF f m 0) := by
  unfold OwnI
  rw [rowF_len f (Nat.zero_le _)]
  simpa [Value.cells, toList_madeCells_one, fmap, rowF] using h

theorem below_grown_none {w w' : World} {B : Nat} (h : w.grownBy w' none) (hB : B ≤ w.heap.size) : Below B w w' :=
  below_of_grown (v := .slice none 0 0) h (fun b e => by simp [Value.ownBlock] at e) hB

set_option maxRecDepth 100000 in
theorem elemList_any (n : Int) (a : Option Addr) (xs : List Int) (cap : Nat) (w : World) (hp : RelP n xs) :
    Calls Tryd.prog 50 #[.agg #[.int .i64 n, .slice a xs.length cap]] w fun e w' => ∃ a' cap', e = .returned (.slice a' xs.length cap') ∧ OwnI w' w.heap.size (.slice a' xs.length cap') (fmap (fun i => (i : Int)) xs.length) ∧ Below w.heap.size w w' := by
  obtain ⟨i0, hi, hz0, hz1, hz2⟩ := info_parts infoInt
  have h10 : xs.length ≤ 10 := by have := hp.len; have := hp.n1; omega
  obtain rfl : n = (xs.length : Int) := hp.len.symm
  have bw1 : Below w.heap.size w (w.alloc (.cells #[.int .i64 (xs.length : Int), .slice a xs.length cap] 28)) := (Below.refl _ _).alloc (Nat.le_refl _) _
  go_enter Tryd.func50, Tryd.ntmps50
  go_wp2_with (at_make; refine wpList_make_full _ rfl (.tmp 6) (.tmp 6) 22 rfl (w.heap.size + 1) 3 i0 (.int .i64 0) 1 Tryd.underlying22 hi hz0 hz1 .i64 .i64 _ _ xs.length rfl rfl rfl rfl (by rw [hz2]; omega) (by unfold maxLen; omega) (by simp) ?_; intro w4 hown hgrow)
  have b4 : Below w.heap.size w w4 := bw1.trans (below_grown_none hgrow bw1.size)
  simp only [World.size_alloc] at hown ⊢
  have hown0 := made_row (fun i => (i : Int)) hown
  obtain ⟨g, hg⟩ : ∃ g, g = w.heap.size + 1 := ⟨_, rfl⟩
  rw [← hg] at hown0 ⊢
  have hgz : w.heap.size + 1 ≤ g := by omega
  clear hown hgrow hg bw1
  go_wp2_with fail
  go_loopw [10] (fun i wr => ∃ k : Nat, k ≤ xs.length ∧ i = .int .i64 k ∧ OwnI wr g (.slice (some ⟨g, 0, none⟩) xs.length xs.length) (rowF (fun i => (i : Int)) xs.length k) ∧ Below w.heap.size w wr) (fun i _ => xs.length - (intOf i).toNat)
  case atStart => exact ⟨0, Nat.zero_le _, rfl, hown0, b4⟩
  case round =>
    clear b4 hown0
    obtain ⟨k, hk, rfl, hown, hb⟩ := hrel
    by_cases hlt : k < xs.length
    · have k1 : (k : Int) < (xs.length : Int) := by omega
      have ⟨ci, fi⟩ := hown.at' (by rw [rowF_len _ hk]) (i := k) (by rw [rowF_len _ hk]; exact hlt)
      have hput := hown.put (by rw [rowF_len _ hk]) k ((fun (i : Nat) => (i : Int)) k)
      rw [rowF_set _ hlt] at hput
      have HP := Lib.hid hput
      clear hput
      go_wp2_with fail
      go_roundw
      case rel => exact ⟨k + 1, by omega, by go_num, HP.out.1, hb.setCell (p := ⟨g, k, none⟩) (show w.heap.size ≤ g by omega) _⟩
      case measure => simp [intOf]; omega
    · obtain rfl : k = xs.length := by omega
      rw [rowF_end] at hown
      have HO := Lib.hid hown
      clear hown
      go_wp2_with fail
      go_ret
      exact ⟨_, xs.length, rfl, HO.out.mono (by omega), hb⟩

/-- which of two elements stands first in the trace list, as the comparison tells it -/
def cfT (xs : List Int) (m : Nat) (x y : Fin m) : Int :=
  if Go.Lib.compareInt (cntB xs x.val) (cntB xs y.val) ≠ 0 then Go.Lib.compareInt (cntB xs x.val) (cntB xs y.val)
  else if Go.Lib.compareInt (cntA xs y.val) (cntA xs x.val) ≠ 0 then Go.Lib.compareInt (cntA xs y.val) (cntA xs x.val)
  else Go.Lib.compareInt (x.val : Int) (y.val : Int)
theorem cmpI_cases (x y : Int) : (x < y ∧ Go.Lib.compareInt x y = -1) ∨ (y < x ∧ Go.Lib.compareInt x y = 1) ∨ (x = y ∧ Go.Lib.compareInt x y = 0) := by
  unfold Go.Lib.compareInt
  by_cases h1 : x < y
  · simp [h1]
  · by_cases h2 : x > y
    · right; left; exact ⟨h2, by simp [h1, h2]⟩
    · have : x = y := by omega
      right; right; simp [this]
theorem lt_cfT (xs : List Int) (m : Nat) (x y : Fin m) : Go.Proofs.ltOf (cfT xs m) x y = befT xs x.val y.val := by
  unfold Go.Proofs.ltOf
  rw [Bool.eq_iff_iff, decide_eq_true_eq, befT_iff]
  unfold cfT
  rcases cmpI_cases (cntB xs x.val) (cntB xs y.val) with ⟨h1, e1⟩ | ⟨h1, e1⟩ | ⟨h1, e1⟩
  · rw [e1]; simp; omega
  · rw [e1]; simp; omega
  · rw [e1]
    rcases cmpI_cases (cntA xs y.val) (cntA xs x.val) with ⟨h2, e2⟩ | ⟨h2, e2⟩ | ⟨h2, e2⟩
    · rw [e2]; simp; omega
    · rw [e2]; simp; omega
    · rw [e2]
      rcases cmpI_cases (x.val : Int) (y.val : Int) with ⟨h3, e3⟩ | ⟨h3, e3⟩ | ⟨h3, e3⟩ <;> rw [e3] <;> simp <;> omega
theorem befT_ir (xs : List Int) (a : Nat) : befT xs a a = false := by
  rw [← Bool.not_eq_true, befT_iff]; omega
theorem swo_cfT (xs : List Int) (m : Nat) : Go.Sort.SWO (Go.Proofs.ltOf (cfT xs m)) where
  irrefl x := by rw [lt_cfT]; exact befT_ir xs _
  trans x y z h1 h2 := by rw [lt_cfT] at *; exact befT_tr h1 h2
  ntrans x y z h1 h2 := by
    rw [lt_cfT, ← Bool.not_eq_true, befT_iff] at *
    omega
theorem tot_cfT (xs : List Int) (m : Nat) (x y : Fin m) (h1 : Go.Proofs.ltOf (cfT xs m) x y = false) (h2 : Go.Proofs.ltOf (cfT xs m) y x = false) : x = y := by
  rw [lt_cfT] at h1 h2
  apply Fin.ext
  apply Decidable.byContradiction
  intro h
  rw [befT_tot h h1] at h2
  cases h2
theorem fin_vals (m : Nat) : (List.finRange m).map (fun i => i.val) = List.range m := by
  apply List.ext_getElem (by simp)
  intro i h1 h2
  simp
/-- the sorted elements are the trace list -/
theorem sort_trT (xs : List Int) (m : Nat) : ((List.finRange m).mergeSort fun x y => !(Go.Proofs.ltOf (cfT xs m)) y x).map (fun i => i.val) = trT xs m := by
  have hperm : (((List.finRange m).mergeSort fun x y => !(Go.Proofs.ltOf (cfT xs m)) y x).map (fun i => i.val)).Perm (trT xs m) := by
    refine ((List.mergeSort_perm _ _).map _).trans ?_
    rw [fin_vals]
    exact (trT_perm xs m).symm
  refine hperm.eq_of_pairwise (le := fun a b => befT xs b a = false) ?_ ?_ ?_
  · intro a b _ _ h1 h2
    apply Decidable.byContradiction
    intro h
    rw [befT_tot h h2] at h1
    cases h1
  · rw [List.pairwise_map]
    have h := List.pairwise_mergeSort (le := fun (x y : Fin m) => !(Go.Proofs.ltOf (cfT xs m)) y x) (fun a b c h1 h2 => by
      simp only [Bool.not_eq_true', lt_cfT] at *
      rw [← Bool.not_eq_true, befT_iff] at *
      omega) (fun a b => by
      simp only [Bool.or_eq_true, Bool.not_eq_true', lt_cfT]
      by_cases h : befT xs b.val a.val = true
      · right; rw [← Bool.not_eq_true, befT_iff]; rw [befT_iff] at h; omega
      · left; simpa using h) (List.finRange m)
    exact h.imp (fun h => by simpa [lt_cfT] using h)
  · exact (trT_pw xs m).imp (fun h => by rw [← Bool.not_eq_true, befT_iff]; rw [befT_iff] at h; omega)
def encF (m : Nat) (i : Fin m) : Value := .int .i64 (i.val : Int)
theorem map_bang {m : Nat} (d : Array (Fin (m+1))) {j : Nat} (h : j < d.size) : (d.map fun i => (i.val : Int))[j]! = ((d[j]!).val : Int) := by
  rw [getElem!_pos _ j (by simpa using h), getElem!_pos d j h]; simp
theorem putRow_encF {m : Nat} (w : World) (blk off : Nat) (d : Array (Fin (m+1))) : Go.Sort.putRow (encF (m+1)) w blk off d = Go.Sort.putRow (Value.int .i64) w blk off (d.map fun i => (i.val : Int)) := by
  unfold Go.Sort.putRow
  congr 1
  funext c
  unfold Go.Sort.putCells
  congr 1
  funext k x
  rw [Array.size_map]
  by_cases h : off ≤ k ∧ k < off + d.size
  · rw [if_pos h, if_pos h, map_bang d (by omega)]; rfl
  · rw [if_neg h, if_neg h]
theorem sorted_grown {m : Nat} (w : World) (blk n : Nat) (d : Array (Fin (m+1))) (os : Array Obj) : w.grownBy (Go.Proofs.sortWorld (encF (m+1)) w blk 0 n d os) (some blk) := by
  unfold Go.Proofs.sortWorld
  rw [putRow_encF]
  exact Go.grownBy_sortedI _



def Sh_laysSlF6_f51_ren : Go.Shelf.Ren := ⟨fun | 6 => 51 | 15 => 82 | 14 => 81 | 28 => 110 | 29 => 111 | 20 => 102 | 21 => 103 | 22 => 104 | 23 => 105 | 24 => 106 | 25 => 107 | 26 => 108 | 27 => 109 | 46 => 124 | 47 => 125 | 48 => 126 | 49 => 127 | 50 => 128 | 57 => 132 | n => n, fun | 22 => 22 | 24 => 3 | 25 => 47 | 3 => 3 | 39 => 58 | 0 => 0 | 53 => 71 | 55 => 73 | 4 => 4 | 46 => 78 | 45 => 77 | 50 => 65 | 5 => 5 | 9 => 9 | 66 => 89 | 70 => 93 | 76 => 97 | 77 => 98 | n => n, fun | n => n⟩
theorem Sh_laysSlF6_f51 : Go.Proofs.SlLaysF.n6 Tryd.prog Sh_laysSlF6_f51_ren := {
  mixed := by kernel_rfl
  f6 := ⟨Tryd.f51.name, by decide, Tryd.func51.trans (congrArg some (by kernel_rfl))⟩
  f14 := ⟨Tryd.f81.name, by decide, Tryd.func81.trans (congrArg some (by kernel_rfl))⟩
  f15 := Tryd.func82.trans (congrArg some (by kernel_rfl))
  f20 := ⟨Tryd.f102.name, by decide, Tryd.func102.trans (congrArg some (by kernel_rfl))⟩
  f21 := ⟨Tryd.f103.name, by decide, Tryd.func103.trans (congrArg some (by kernel_rfl))⟩
  f22 := ⟨Tryd.f104.name, by decide, Tryd.func104.trans (congrArg some (by kernel_rfl))⟩
  f23 := ⟨Tryd.f105.name, by decide, Tryd.func105.trans (congrArg some (by kernel_rfl))⟩
  f24 := ⟨Tryd.f106.name, by decide, Tryd.func106.trans (congrArg some (by kernel_rfl))⟩
  f25 := ⟨Tryd.f107.name, by decide, Tryd.func107.trans (congrArg some (by kernel_rfl))⟩
  f26 := ⟨Tryd.f108.name, by decide, Tryd.func108.trans (congrArg some (by kernel_rfl))⟩
  f27 := ⟨Tryd.f109.name, by decide, Tryd.func109.trans (congrArg some (by kernel_rfl))⟩
  f28 := Tryd.func110.trans (congrArg some (by kernel_rfl))
  f29 := Tryd.func111.trans (congrArg some (by kernel_rfl))
  f46 := ⟨Tryd.f124.name, by decide, Tryd.func124.trans (congrArg some (by kernel_rfl))⟩
  f47 := Tryd.func125.trans (congrArg some (by kernel_rfl))
  f48 := Tryd.func126.trans (congrArg some (by kernel_rfl))
  f49 := ⟨Tryd.f127.name, by decide, Tryd.func127.trans (congrArg some (by kernel_rfl))⟩
  f50 := ⟨Tryd.f128.name, by decide, Tryd.func128.trans (congrArg some (by kernel_rfl))⟩
  f57 := ⟨Tryd.f132.name, by decide, Tryd.func132.trans (congrArg some (by kernel_rfl))⟩
  t0 := Tryd.underlying0
  a0 := Tryd.isAgg0
  z0 := Tryd.sizeOf0
  v0 := Tryd.zeroValue0
  t3 := Tryd.underlying3
  a3 := Tryd.isAgg3
  z3 := Tryd.sizeOf3
  v3 := Tryd.zeroValue3
  t4 := Tryd.underlying4
  a4 := Tryd.isAgg4
  z4 := Tryd.sizeOf4
  v4 := Tryd.zeroValue4
  t5 := Tryd.underlying5
  a5 := Tryd.isAgg5
  z5 := Tryd.sizeOf5
  v5 := Tryd.zeroValue5
  t9 := Tryd.underlying9
  a9 := Tryd.isAgg9
  z9 := Tryd.sizeOf9
  v9 := Tryd.zeroValue9
  t22 := Tryd.underlying22
  a22 := Tryd.isAgg22
  z22 := Tryd.sizeOf22
  v22 := Tryd.zeroValue22
  a24 := Tryd.isAgg3
  z24 := Tryd.sizeOf3
  t25 := Tryd.underlying47
  a25 := Tryd.isAgg47
  z25 := Tryd.sizeOf47
  v25 := Tryd.zeroValue47
  t39 := Tryd.underlying58
  a39 := Tryd.isAgg58
  z39 := Tryd.sizeOf58
  v39 := Tryd.zeroValue58
  t45 := Tryd.underlying77
  a45 := Tryd.isAgg77
  z45 := Tryd.sizeOf77
  v45 := Tryd.zeroValue77
  t46 := Tryd.underlying78
  a46 := Tryd.isAgg78
  z46 := Tryd.sizeOf78
  v46 := Tryd.zeroValue78
  t50 := Tryd.underlying65
  a50 := Tryd.isAgg65
  z50 := Tryd.sizeOf65
  v50 := Tryd.zeroValue65
  t53 := Tryd.underlying71
  a53 := Tryd.isAgg71
  z53 := Tryd.sizeOf71
  v53 := Tryd.zeroValue71
  t55 := Tryd.underlying73
  a55 := Tryd.isAgg73
  z55 := Tryd.sizeOf73
  v55 := Tryd.zeroValue73
  t66 := Tryd.underlying89
  a66 := Tryd.isAgg89
  z66 := Tryd.sizeOf89
  v66 := Tryd.zeroValue89
  t70 := Tryd.underlying93
  a70 := Tryd.isAgg93
  z70 := Tryd.sizeOf93
  v70 := Tryd.zeroValue93
  t76 := Tryd.underlying97
  a76 := Tryd.isAgg97
  z76 := Tryd.sizeOf97
  v76 := Tryd.zeroValue97
  t77 := Tryd.underlying98
  a77 := Tryd.isAgg98
  z77 := Tryd.sizeOf98
  v77 := Tryd.zeroValue98 }

open Go.RowKit Go.Lib Go.Sort in
theorem Sh_slices_SortFunc_total {α : Type} [Inhabited α] (enc : α → Value) (h1 : OneCell enc) (cf : α → α → Int) (hO : SWO (ltOf cf)) (g : Nat) (cb : Array Value) (blk off cap : Nat) (d : Array α) (w : World) (eg : ∀ args w, (callFunc g args).run Tryd.prog w = .ok (.enter g args) w) (hcmp : CmpLays1 Tryd.prog g cb enc cf blk off d.size w) (hH : Holds enc w blk off d) (hblk : blk < w.heap.size) (hsz : d.size < 4611686018427387904) (hT : ∀ x y, (ltOf cf) x y = false → (ltOf cf) y x = false → x = y) :
    Calls Tryd.prog 51 #[.slice (some ⟨blk, off, none⟩) d.size cap, .func (.func g) #[] cb] w fun e w' =>
      e = .returned (.tuple #[]) ∧ ∃ n os, w' = sortWorld enc w blk off n (d.toList.mergeSort fun x y => !(ltOf cf) y x).toArray os := Any.slices_SortFunc_total Sh_laysSlF6_f51 enc h1 cf hO g cb blk off cap d w eg hcmp hH hblk hsz hT

def Sh_laysSlF06_f51_ren : Go.Shelf.Ren := ⟨fun | 6 => 51 | 15 => 82 | 14 => 81 | 28 => 110 | 29 => 111 | 20 => 102 | 21 => 103 | 22 => 104 | 23 => 105 | 24 => 106 | 25 => 107 | 26 => 108 | 27 => 109 | 46 => 124 | 47 => 125 | 48 => 126 | 49 => 127 | 50 => 128 | 57 => 132 | n => n, fun | 22 => 22 | 24 => 3 | 25 => 47 | 3 => 3 | 39 => 58 | 0 => 0 | 53 => 71 | 55 => 73 | 4 => 4 | 46 => 78 | 45 => 77 | 50 => 65 | 5 => 5 | 9 => 9 | 66 => 89 | 70 => 93 | 76 => 97 | 77 => 98 | n => n, fun | n => n⟩
theorem Sh_laysSlF06_f51 : Go.Proofs.SlLaysF0.n6 Tryd.prog Sh_laysSlF06_f51_ren := {
  mixed := by kernel_rfl
  f6 := ⟨Tryd.f51.name, by decide, Tryd.func51.trans (congrArg some (by kernel_rfl))⟩
  f14 := ⟨Tryd.f81.name, by decide, Tryd.func81.trans (congrArg some (by kernel_rfl))⟩
  f15 := Tryd.func82.trans (congrArg some (by kernel_rfl))
  f20 := ⟨Tryd.f102.name, by decide, Tryd.func102.trans (congrArg some (by kernel_rfl))⟩
  f21 := ⟨Tryd.f103.name, by decide, Tryd.func103.trans (congrArg some (by kernel_rfl))⟩
  f22 := ⟨Tryd.f104.name, by decide, Tryd.func104.trans (congrArg some (by kernel_rfl))⟩
  f23 := ⟨Tryd.f105.name, by decide, Tryd.func105.trans (congrArg some (by kernel_rfl))⟩
  f24 := ⟨Tryd.f106.name, by decide, Tryd.func106.trans (congrArg some (by kernel_rfl))⟩
  f25 := ⟨Tryd.f107.name, by decide, Tryd.func107.trans (congrArg some (by kernel_rfl))⟩
  f26 := ⟨Tryd.f108.name, by decide, Tryd.func108.trans (congrArg some (by kernel_rfl))⟩
  f27 := ⟨Tryd.f109.name, by decide, Tryd.func109.trans (congrArg some (by kernel_rfl))⟩
  f28 := Tryd.func110.trans (congrArg some (by kernel_rfl))
  f29 := Tryd.func111.trans (congrArg some (by kernel_rfl))
  f46 := ⟨Tryd.f124.name, by decide, Tryd.func124.trans (congrArg some (by kernel_rfl))⟩
  f47 := Tryd.func125.trans (congrArg some (by kernel_rfl))
  f48 := Tryd.func126.trans (congrArg some (by kernel_rfl))
  f49 := ⟨Tryd.f127.name, by decide, Tryd.func127.trans (congrArg some (by kernel_rfl))⟩
  f50 := ⟨Tryd.f128.name, by decide, Tryd.func128.trans (congrArg some (by kernel_rfl))⟩
  f57 := ⟨Tryd.f132.name, by decide, Tryd.func132.trans (congrArg some (by kernel_rfl))⟩
  t0 := Tryd.underlying0
  a0 := Tryd.isAgg0
  z0 := Tryd.sizeOf0
  v0 := Tryd.zeroValue0
  t3 := Tryd.underlying3
  a3 := Tryd.isAgg3
  z3 := Tryd.sizeOf3
  v3 := Tryd.zeroValue3
  t4 := Tryd.underlying4
  a4 := Tryd.isAgg4
  z4 := Tryd.sizeOf4
  v4 := Tryd.zeroValue4
  t5 := Tryd.underlying5
  a5 := Tryd.isAgg5
  z5 := Tryd.sizeOf5
  v5 := Tryd.zeroValue5
  t9 := Tryd.underlying9
  a9 := Tryd.isAgg9
  z9 := Tryd.sizeOf9
  v9 := Tryd.zeroValue9
  t22 := Tryd.underlying22
  a22 := Tryd.isAgg22
  z22 := Tryd.sizeOf22
  v22 := Tryd.zeroValue22
  t25 := Tryd.underlying47
  a25 := Tryd.isAgg47
  z25 := Tryd.sizeOf47
  v25 := Tryd.zeroValue47
  t39 := Tryd.underlying58
  a39 := Tryd.isAgg58
  z39 := Tryd.sizeOf58
  v39 := Tryd.zeroValue58
  t45 := Tryd.underlying77
  a45 := Tryd.isAgg77
  z45 := Tryd.sizeOf77
  v45 := Tryd.zeroValue77
  t46 := Tryd.underlying78
  a46 := Tryd.isAgg78
  z46 := Tryd.sizeOf78
  v46 := Tryd.zeroValue78
  t50 := Tryd.underlying65
  a50 := Tryd.isAgg65
  z50 := Tryd.sizeOf65
  v50 := Tryd.zeroValue65
  t53 := Tryd.underlying71
  a53 := Tryd.isAgg71
  z53 := Tryd.sizeOf71
  v53 := Tryd.zeroValue71
  t55 := Tryd.underlying73
  a55 := Tryd.isAgg73
  z55 := Tryd.sizeOf73
  v55 := Tryd.zeroValue73
  t66 := Tryd.underlying89
  a66 := Tryd.isAgg89
  z66 := Tryd.sizeOf89
  v66 := Tryd.zeroValue89
  t70 := Tryd.underlying93
  a70 := Tryd.isAgg93
  z70 := Tryd.sizeOf93
  v70 := Tryd.zeroValue93
  t76 := Tryd.underlying97
  a76 := Tryd.isAgg97
  z76 := Tryd.sizeOf97
  v76 := Tryd.zeroValue97
  t77 := Tryd.underlying98
  a77 := Tryd.isAgg98
  z77 := Tryd.sizeOf98
  v77 := Tryd.zeroValue98 }

open Go.RowKit Go.Lib Go.Sort in
theorem Sh_slices_SortFunc_none {α : Type} [Inhabited α] (p : Option Addr) (cap : Nat) (fv : Value) (w : World) :
    Calls Tryd.prog 51 #[.slice p 0 cap, fv] w fun e w' => e = .returned (.tuple #[]) ∧ w' = w := AnyF.slices_SortFunc_none Sh_laysSlF06_f51 p cap fv w

theorem idl_nth {n i : Nat} (h : i < n) : nth (fmap (fun i => (i : Int)) n) i = (i : Int) := fmap_nth _ h
theorem fin_at {m j : Nat} (h : j < (List.finRange (m+1)).toArray.size) : (((List.finRange (m+1)).toArray[j]!).val : Int) = (j : Int) := by
  rw [getElem!_pos _ j h]
  simp
theorem sortT_own (g0 : Nat) (cb : Array Value) (a : Option Addr) (cap m : Nat) (xs : List Int) (B : Nat) (w : World) (hm : m ≤ 1048576) (ho : OwnI w B (.slice a m cap) (fmap (fun i => (i : Int)) m))
    (eg : ∀ args w, (callFunc g0 args).run Tryd.prog w = .ok (.enter g0 args) w)
    (hcmp : ∀ g, B ≤ g → g < w.heap.size → ∀ k, m = k + 1 → Go.Proofs.CmpLays1 Tryd.prog g0 cb (encF (k+1)) (cfT xs (k+1)) g 0 (k+1) w) :
    Calls Tryd.prog 51 #[.slice a m cap, .func (.func g0) #[] cb] w fun e w' => e = .returned (.tuple #[]) ∧ OwnI w' B (.slice a m cap) (ints (trT xs m)) ∧ w.grownBy w' (Value.slice a m cap).ownBlock := by
  rcases m with _ | k
  · refine (Sh_slices_SortFunc_none (α := Int) a cap _ w).mono ?_
    rintro e w' ⟨rfl, rfl⟩
    exact ⟨rfl, ho, World.grownBy.refl _ _⟩
  · rcases ho.2 with ⟨e0, h0⟩ | ⟨g, cap', cur, e0, hbase, hb, h1, h2, h3, h4⟩
    · rw [fmap_len] at h0; omega
    · simp only [Value.slice.injEq] at e0
      obtain ⟨rfl, -, rfl⟩ := e0
      have hgs := (Array.getElem?_eq_some_iff.1 hb).1
      have hsz : (List.finRange (k+1)).toArray.size = k + 1 := by simp
      have hH : Go.Sort.Holds (encF (k+1)) w g 0 (List.finRange (k+1)).toArray := by
        intro j hj
        have hj2 : j < k + 1 := by rw [hsz] at hj; exact hj
        have ⟨c1, f1⟩ := ho.at' (fmap_len _ _).symm (i := j) (by rw [fmap_len]; exact hj2)
        rw [idl_nth hj2] at c1
        rw [Nat.zero_add]
        refine ⟨?_, f1⟩
        rw [c1, encF, fin_at hj]
      have hcon := Sh_slices_SortFunc_total (encF (k+1)) (fun _ => rfl) (cfT xs (k+1)) (swo_cfT xs (k+1)) g0 cb g 0 cap (List.finRange (k+1)).toArray w eg (by rw [hsz]; exact hcmp g hbase hgs k rfl) hH hgs (by rw [hsz]; omega) (tot_cfT xs (k+1))
      rw [hsz] at hcon
      refine hcon.mono ?_
      rintro e w' ⟨rfl, nn, os, rfl⟩
      refine ⟨rfl, ?_, sorted_grown w g nn _ os⟩
      unfold Go.Proofs.sortWorld
      rw [putRow_encF]
      have e1 : ((List.finRange (k+1)).toArray.toList.mergeSort fun x y => !(Go.Proofs.ltOf (cfT xs (k+1))) y x).toArray.map (fun i => (i.val : Int)) = (ints (trT xs (k+1))).toArray := by
        rw [← sort_trT xs (k+1), ints, List.map_map]
        simp
      rw [e1]
      have hlen : (ints (trT xs (k+1))).length = (fmap (fun (i : Nat) => (i : Int)) (k+1)).length := by rw [ints_len, trT_len, fmap_len]
      have := Go.ownsRow_sortedI (n := nn) (os := os) (ss := fmap (fun (i : Nat) => (i : Int)) (k+1)) (ts := ints (trT xs (k+1))) hlen hbase hb (by rw [fmap_len] at *; exact h1) h2 h3
      rw [fmap_len] at this
      unfold OwnI
      rw [ints_len, trT_len]
      exact this

/-- the first of three numbers that is not 0 -/
def or3 (a b c : Int) : Int := if a ≠ 0 then a else if b ≠ 0 then b else c
set_option maxRecDepth 100000 in
theorem cmpOr3_any (a b c : Int) (g : Nat) (w : World) (h0 : w.cell? ⟨g, 0, none⟩ = some (.int .i64 a)) (h1 : w.cell? ⟨g, 1, none⟩ = some (.int .i64 b)) (h2 : w.cell? ⟨g, 2, none⟩ = some (.int .i64 c)) :
    Calls Tryd.prog 53 #[.slice (some ⟨g, 0, none⟩) 3 3] w fun e w' => e = .returned (.int .i64 (or3 a b c)) ∧ w' = w := by
  by_cases ha : a = 0
  · by_cases hb : b = 0
    · by_cases hc : c = 0
      · have HR : Hid (or3 a b c = 0) := by simp [Hid, or3, ha, hb, hc]
        have qa : (a != 0) = false := by simp [ha]
        have qb : (b != 0) = false := by simp [hb]
        have qc : (c != 0) = false := by simp [hc]
        clear ha hb hc
        go_enter Tryd.func53, Tryd.ntmps53
        go_wp2_with fail
        go_loop [8] (fun i => ∃ k : Nat, k ≤ 3 ∧ i = .int .i64 k) (fun i => 3 - (intOf i).toNat)
        case atStart => exact ⟨0, by omega, rfl⟩
        case round =>
          obtain ⟨k, hk, rfl⟩ := hrel
          rcases (by omega : k = 0 ∨ k = 1 ∨ k = 2 ∨ k = 3) with rfl | rfl | rfl | rfl
          · go_wp2_with fail
            go_round
            case rel => exact ⟨1, by omega, by go_num⟩
            case measure => simp [intOf]
          · go_wp2_with fail
            go_round
            case rel => exact ⟨2, by omega, by go_num⟩
            case measure => simp [intOf]
          · go_wp2_with fail
            go_round
            case rel => exact ⟨3, by omega, by go_num⟩
            case measure => simp [intOf]
          · go_wp2_with fail
            go_ret
            exact ⟨ret_int HR.out.symm, rfl⟩
      · have HR : Hid (or3 a b c = c) := by simp [Hid, or3, ha, hb]
        have qa : (a != 0) = false := by simp [ha]
        have qb : (b != 0) = false := by simp [hb]
        have qc : (c != 0) = true := by simp [hc]
        clear ha hb hc
        go_enter Tryd.func53, Tryd.ntmps53
        go_wp2_with fail
        go_loop [8] (fun i => ∃ k : Nat, k ≤ 2 ∧ i = .int .i64 k) (fun i => 3 - (intOf i).toNat)
        case atStart => exact ⟨0, by omega, rfl⟩
        case round =>
          obtain ⟨k, hk, rfl⟩ := hrel
          rcases (by omega : k = 0 ∨ k = 1 ∨ k = 2) with rfl | rfl | rfl
          · go_wp2_with fail
            go_round
            case rel => exact ⟨1, by omega, by go_num⟩
            case measure => simp [intOf]
          · go_wp2_with fail
            go_round
            case rel => exact ⟨2, by omega, by go_num⟩
            case measure => simp [intOf]
          · go_wp2_with fail
            go_ret
            exact ⟨ret_int HR.out.symm, rfl⟩
    · have HR : Hid (or3 a b c = b) := by simp [Hid, or3, ha, hb]
      have qa : (a != 0) = false := by simp [ha]
      have qb : (b != 0) = true := by simp [hb]
      clear ha hb
      go_enter Tryd.func53, Tryd.ntmps53
      go_wp2_with fail
      go_loop [8] (fun i => ∃ k : Nat, k ≤ 1 ∧ i = .int .i64 k) (fun i => 3 - (intOf i).toNat)
      case atStart => exact ⟨0, by omega, rfl⟩
      case round =>
        obtain ⟨k, hk, rfl⟩ := hrel
        rcases (by omega : k = 0 ∨ k = 1) with rfl | rfl
        · go_wp2_with fail
          go_round
          case rel => exact ⟨1, by omega, by go_num⟩
          case measure => simp [intOf]
        · go_wp2_with fail
          go_ret
          exact ⟨ret_int HR.out.symm, rfl⟩
  · have HR : Hid (or3 a b c = a) := by simp [Hid, or3, ha]
    have qa : (a != 0) = true := by simp [ha]
    clear ha
    go_enter Tryd.func53, Tryd.ntmps53
    go_wp2_with fail
    go_loop [8] (fun i => i = .int .i64 0) (fun i => 3 - (intOf i).toNat)
    case atStart => rfl
    case round =>
      obtain rfl := hrel
      go_wp2_with fail
      go_ret
      exact ⟨ret_int HR.out.symm, rfl⟩

def oc1 (s : Int) : Int := IntKind.u64.wrap (bits .and .u64 (s / 2) 6148914691236517205 + bits .and .u64 s 6148914691236517205)
def oc2 (s : Int) : Int := IntKind.u64.wrap (bits .and .u64 (oc1 s / 4) 3689348814741910323 + bits .and .u64 (oc1 s) 3689348814741910323)
def oc3 (s : Int) : Int := bits .and .u64 (IntKind.u64.wrap (oc2 s / 16 + oc2 s)) 1085102592571150095
def oc4 (s : Int) : Int := IntKind.u64.wrap (oc3 s + oc3 s / 256)
def oc5 (s : Int) : Int := IntKind.u64.wrap (oc4 s + oc4 s / 65536)
def oc6 (s : Int) : Int := IntKind.u64.wrap (oc5 s + oc5 s / 4294967296)
theorem oc_all : ∀ s : Fin 1024, bits .and .i64 (IntKind.i64.wrap (oc6 (s.val : Int))) 127 = ((elems s.val).length : Int) := by decide +kernel
theorem oc_eq {s : Nat} (h : s < 1024) : bits .and .i64 (wrap64 (oc6 (s : Int))) 127 = ((elems s).length : Int) := by
  rw [← IntWalk.i64_left]
  exact oc_all ⟨s, h⟩
theorem ones64_any (s : Nat) (w : World) (h1 : s < 1024) :
    Calls Tryd.prog 113 #[.int .u64 (s : Int)] w fun e w' => e = .returned (.int .i64 ((elems s).length : Int)) ∧ w = w' := by
  go_enter Tryd.func113, Tryd.ntmps113
  go_wp2_with fail
  go_ret
  refine ⟨?_, rfl⟩
  rw [← oc_eq h1]
  rfl
theorem ones_any (s : Nat) (w : World) (h1 : s < 1024) :
    Calls Tryd.prog 84 #[.int .u64 (s : Int)] w fun e w' => e = .returned (.int .i64 ((elems s).length : Int)) ∧ w = w' := by
  go_enter Tryd.func84, Tryd.ntmps84
  go_wp2_with fail
  refine (ones64_any s _ h1).mono ?_
  rintro e w' ⟨rfl, rfl⟩
  go_wp2_with fail
  go_ret
  exact ⟨rfl, rfl⟩
theorem countElements_any (s : Nat) (w : World) (h1 : s < 1024) :
    Calls Tryd.prog 55 #[.int .i64 (s : Int)] w fun e w' => e = .returned (.int .i64 ((elems s).length : Int)) ∧ w = w' := by
  have s1 : (s : Int) < 1024 := by omega
  go_enter Tryd.func55, Tryd.ntmps55
  go_wp2_with fail
  refine (ones_any s _ h1).mono ?_
  rintro e w' ⟨rfl, rfl⟩
  go_wp2_with fail
  go_ret
  exact ⟨rfl, rfl⟩

def Sh_lays122_ren : Go.Shelf.Ren := ⟨fun | 122 => 54 | 215 => 83 | n => n, fun | 3 => 3 | 4 => 4 | n => n, fun | n => n⟩
theorem Sh_lays122 : Go.Proofs.Lays.n122 Tryd.prog Sh_lays122_ren := {
  mixed := by kernel_rfl
  f122 := Tryd.func54.trans (congrArg some (by kernel_rfl))
  f215 := Tryd.func83.trans (congrArg some (by kernel_rfl))
  t3 := Tryd.underlying3
  a3 := Tryd.isAgg3
  z3 := Tryd.sizeOf3
  v3 := Tryd.zeroValue3
  t4 := Tryd.underlying4
  a4 := Tryd.isAgg4
  z4 := Tryd.sizeOf4
  v4 := Tryd.zeroValue4 }

open Go.RowKit in
theorem Sh_cmp_Compare_int (x y : Int) (w : World) :
    Calls Tryd.prog 54 #[.int .i64 x, .int .i64 y] w fun e w' => e = .returned (.int .i64 (Lib.compareInt x y)) ∧ w' = w := Any.cmp_Compare_int Sh_lays122 x y w

theorem cells3d (W : World) (x y z : Value) (t : TypeId) : ((W.alloc (.cells #[x, y, z] t)).drew).cell? ⟨W.heap.size, 0, none⟩ = some x ∧ ((W.alloc (.cells #[x, y, z] t)).drew).cell? ⟨W.heap.size, 1, none⟩ = some y ∧ ((W.alloc (.cells #[x, y, z] t)).drew).cell? ⟨W.heap.size, 2, none⟩ = some z := by
  refine ⟨?_, ?_, ?_⟩
  · show (W.alloc (.cells #[x, y, z] t)).cell? _ = _
    simp
  · show (W.alloc (.cells #[x, y, z] t)).cell? _ = _
    simp
  · show (W.alloc (.cells #[x, y, z] t)).cell? _ = _
    simp
set_option maxRecDepth 100000 in
set_option maxHeartbeats 1000000 in
theorem cmpT_is (n : Int) (xs : List Int) (bB bo : Nat) (ab : Option Addr) (cb : Nat) (a : Option Addr) (cap : Nat) (i j : Nat) (W : World) (hp : RelP n xs) (hi : i < xs.length) (hj : j < xs.length)
    (hB : W.cell? ⟨bB, 0, none⟩ = some (.slice ab xs.length cb)) (hrB : Rd W ab (belows xs xs.length)) (hO : W.cell? ⟨bo, 1, none⟩ = some (.slice a xs.length cap)) (hx : Rd W a xs) :
    Calls Tryd.prog 52 #[.int .i64 (i : Int), .int .i64 (j : Int), .pointer (some ⟨bB, 0, none⟩), .pointer (some ⟨bo, 0, none⟩)] W fun e w' => e = .returned (.int .i64 (or3 (Go.Lib.compareInt (cntB xs i) (cntB xs j)) (Go.Lib.compareInt (cntA xs j) (cntA xs i)) (Go.Lib.compareInt (i : Int) (j : Int)))) ∧ ∃ q os', w' = Go.Sort.grow (W.drewN q) os' := by
  have h10 : xs.length ≤ 10 := by have := hp.len; have := hp.n1; omega
  have hbi := belowTo_small xs (i : Int) (k := xs.length) h10
  have hbj := belowTo_small xs (j : Int) (k := xs.length) h10
  obtain ⟨b1, off1, rfl, hbl1, hci⟩ := hrB.cell i (by rw [belows_len]; exact hi)
  obtain ⟨b1', off1', e1, hbl1', hcj⟩ := hrB.cell j (by rw [belows_len]; exact hj)
  simp only [Option.some.injEq, Addr.mk.injEq, and_true] at e1
  obtain ⟨rfl, rfl⟩ := e1
  rw [show nth (belows xs xs.length) i = ((belowTo xs (i : Int) xs.length : Nat) : Int) from fmap_nth _ hi] at hci
  rw [show nth (belows xs xs.length) j = ((belowTo xs (j : Int) xs.length : Nat) : Int) from fmap_nth _ hj] at hcj
  obtain ⟨b2, off2, rfl, hbl2, hai⟩ := hx.cell i hi
  obtain ⟨b2', off2', e2, hbl2', haj⟩ := hx.cell j hj
  simp only [Option.some.injEq, Addr.mk.injEq, and_true] at e2
  obtain ⟨rfl, rfl⟩ := e2
  have pi := hp.pos i hi
  have si := hp.small i hi
  have pj := hp.pos j hj
  have sj := hp.small j hj
  rw [show nth xs i = (((nth xs i).toNat : Nat) : Int) by omega] at hai
  rw [show nth xs j = (((nth xs j).toNat : Nat) : Int) by omega] at haj
  have hsi : (nth xs i).toNat < 1024 := by omega
  have hsj : (nth xs j).toNat < 1024 := by omega
  have i1 : (i : Int) < (xs.length : Int) := by omega
  have j1 : (j : Int) < (xs.length : Int) := by omega
  have HR : Hid (or3 (Go.Lib.compareInt ((elems (belowTo xs (i : Int) xs.length)).length : Int) ((elems (belowTo xs (j : Int) xs.length)).length : Int)) (Go.Lib.compareInt ((elems (nth xs j).toNat).length : Int) ((elems (nth xs i).toNat).length : Int)) (Go.Lib.compareInt (i : Int) (j : Int)) = or3 (Go.Lib.compareInt (cntB xs i) (cntB xs j)) (Go.Lib.compareInt (cntA xs j) (cntA xs i)) (Go.Lib.compareInt (i : Int) (j : Int))) := rfl
  obtain ⟨Bi, hBi⟩ : ∃ Bi, Bi = belowTo xs (i : Int) xs.length := ⟨_, rfl⟩
  obtain ⟨Bj, hBj⟩ : ∃ Bj, Bj = belowTo xs (j : Int) xs.length := ⟨_, rfl⟩
  obtain ⟨Ai, hAi⟩ : ∃ Ai, Ai = (nth xs i).toNat := ⟨_, rfl⟩
  obtain ⟨Aj, hAj⟩ : ∃ Aj, Aj = (nth xs j).toNat := ⟨_, rfl⟩
  rw [← hBi] at hbi hci HR
  rw [← hBj] at hbj hcj HR
  rw [← hAi] at hsi hai HR
  rw [← hAj] at hsj haj HR
  clear hBi hBj hAi hAj pi si pj sj hrB hx
  go_enter Tryd.func52, Tryd.ntmps52
  go_wp2_with fail
  go_region_held3 (fun w' => w'.cell? ⟨bB, 0, none⟩ = some (.slice (some ⟨b1, off1, none⟩) xs.length cb) ∧ w'.cell? ⟨bo, 1, none⟩ = some (.slice (some ⟨b2, off2, none⟩) xs.length cap) ∧ w'.cell? ⟨b1, off1 + i, none⟩ = some (.int .i64 (Bi : Int)) ∧ w'.cell? ⟨b1, off1 + j, none⟩ = some (.int .i64 (Bj : Int)) ∧ w'.cell? ⟨b2, off2 + i, none⟩ = some (.int .i64 (Ai : Int)) ∧ w'.cell? ⟨b2, off2 + j, none⟩ = some (.int .i64 (Aj : Int)))
    (first | go_keep)
    (first | (go_at_call 55; refine (countElements_any _ _ (by first | exact hbi | exact hbj | exact hsi | exact hsj)).mono ?_; rintro e w' ⟨rfl, rfl⟩) | (go_at_call 54; refine (Sh_cmp_Compare_int _ _ _).mono ?_; rintro e w' ⟨rfl, rfl⟩) | (go_at_call 53; refine (cmpOr3_any _ _ _ _ _ (cells3d _ _ _ _ _).1 (cells3d _ _ _ _ _).2.1 (cells3d _ _ _ _ _).2.2).mono ?_; rintro e w' ⟨rfl, rfl⟩))
  go_wp2_with fail
  go_ret
  exact ⟨ret_int HR.out, 1, #[_], by rw [Go.Sort.alloc_eq_grow]; rfl⟩

set_option maxRecDepth 100000 in
theorem iTrace_any (n : Int) (a : Option Addr) (xs : List Int) (cap : Nat) (w : World) (hn : -9223372036854775808 ≤ n ∧ n ≤ 9223372036854775807) (hx : Rd w a xs) (hT : TabOk w) :
    Calls Tryd.prog 24 #[.agg #[.int .i64 n, .slice a xs.length cap]] w fun e w' => ∃ a' cap', e = .returned (.tuple #[.slice a' (trcL n xs).length cap', .bool (semB n xs)]) ∧ OwnI w' w.heap.size (.slice a' (trcL n xs).length cap') (trcL n xs) ∧ Below w.heap.size w w' := by
  have hx1 := hx.alloc (.cells #[.int .i64 n, .slice a xs.length cap] 28)
  have hT1 : TabOk (w.alloc (.cells #[.int .i64 n, .slice a xs.length cap] 28)) := hT.below ((Below.refl _ _).alloc (Nat.le_refl _) _)
  go_enter Tryd.func24, Tryd.ntmps24
  go_wp2_with fail
  refine (iSemi_any _ _ _ _ _ hn hx1 hT1).mono ?_
  rintro e w1 ⟨rfl, hb1⟩
  have A1 : Box2 w1 w.heap.size (.int .i64 n) (.slice a xs.length cap) := (Box2.new w _ _ _).below hb1
  have bw1 : Below w.heap.size w w1 := Below.trans (by repeat (first | exact Below.refl _ _ | assumption | refine Below.alloc ?_ (by first | exact Nat.le_refl _ | (simp only [World.size_alloc, World.size_setCell, World.size_drew]; omega) | omega) _ | refine Below.setCell ?_ (by first | exact Nat.le_refl _ | (simp only [World.size_alloc, World.size_setCell, World.size_drew]; omega) | omega) _ | refine Below.drew ?_)) (hb1.mono (by first | (simp only [World.size_alloc, World.size_setCell, World.size_drew]; omega) | omega))
  have ⟨zA, cA, dA⟩ := A1
  clear hb1 hx1 hT1
  cases hs : semB n xs
  · have HL : Hid (trcL n xs = []) := by simp [Hid, trcL, hs]
    have HB := Lib.hid hs
    clear hs
    go_wp2_with fail
    refine bodyPost_ret (v := .tuple #[.slice none 0 0, .bool false]) (by simp [results, Tryd.results24, go_sem]) rfl ?_
    exact ⟨none, 0, by rw [HL.out, HB.out]; rfl, by rw [HL.out]; exact OwnI.nil _ _, bw1⟩
  · have hp := ord_rel (sem_ord hs)
    have h10 : xs.length ≤ 10 := by have := hp.len; have := hp.n1; omega
    have HL : Hid (trcL n xs = ints (trT xs xs.length)) := by simp [Hid, trcL, hs]
    have HB := Lib.hid hs
    clear hs
    go_wp2_with fail
    refine (belowSets_any _ _ _ _ _ (hx.below bw1) hp).mono ?_
    rintro e w2 ⟨a2, c2, rfl, ho2, hb2⟩
    have bw2 := bw1.trans (hb2.mono bw1.size)
    have A2 := A1.below hb2
    have hr2 := ho2.rd
    have z2 : w.heap.size + 1 ≤ w2.heap.size := by have := A2.1; omega
    clear ho2 hb2 zA cA dA A1 bw1
    have ⟨zA, cA, dA⟩ := A2
    go_wp2_with fail
    refine (elemList_any _ _ _ _ _ hp).mono ?_
    rintro e w4 ⟨a4, c4, rfl, ho4, hb4⟩
    have hB4 : w4.cell? ⟨w2.heap.size, 0, none⟩ = some (.slice a2 xs.length c2) := (hb4.cell (p := ⟨w2.heap.size, 0, none⟩) (by simp)).trans (by simp)
    have b24 : Below w2.heap.size w2 w4 := Below.trans ((Below.refl _ _).alloc (Nat.le_refl _) _) (hb4.mono (by simp))
    have hz4 : w2.heap.size + 1 ≤ w4.heap.size := by have := hb4.size; simpa using this
    have A4 := A2.below b24
    have hr4 := hr2.below b24
    have hx4 := hx.below (bw2.trans (b24.mono bw2.size))
    have ho4' := ho4.mono (B' := w2.heap.size + 1) (by simp)
    have eg : ∀ args w, (callFunc 52 args).run Tryd.prog w = .ok (.enter 52 args) w := enters_of Tryd.func52 (by kernel_rfl) rfl
    have hS := sortT_own 52 #[.pointer (some ⟨w2.heap.size, 0, none⟩), .pointer (some ⟨w.heap.size, 0, none⟩)] a4 c4 xs.length xs (w2.heap.size + 1) w4 (by omega) ho4' eg (fun g hg hgs k hk => by
      intro m os dk hsz x y
      have hgw := sorted_grown w4 g m dk os
      obtain ⟨W, hW⟩ : ∃ W, W = Go.Proofs.sortWorld (encF (k+1)) w4 g 0 m dk os := ⟨_, rfl⟩
      rw [← hW] at hgw ⊢
      have bW : Below (w2.heap.size + 1) w4 W := grown_below hgw _ hg hz4
      have bW2 : Below w2.heap.size w2 W := b24.trans (bW.mono (by omega))
      have hc := cmpT_is n xs w2.heap.size w.heap.size a2 c2 a cap x.val y.val W hp (by have := x.isLt; omega) (by have := y.isLt; omega) ((bW.cell (p := ⟨w2.heap.size, 0, none⟩) (show w2.heap.size < w2.heap.size + 1 by omega)).trans hB4) (hr2.below bW2) ((A2.below bW2).2.2) (hx.below (bw2.trans (bW2.mono bw2.size)))
      have ea : #[encF (k+1) x, encF (k+1) y] ++ #[Value.pointer (some ⟨w2.heap.size, 0, none⟩), Value.pointer (some ⟨w.heap.size, 0, none⟩)] = #[Value.int .i64 (x.val : Int), Value.int .i64 (y.val : Int), Value.pointer (some ⟨w2.heap.size, 0, none⟩), Value.pointer (some ⟨w.heap.size, 0, none⟩)] := by simp [encF]
      rw [ea]
      exact hc.mono fun e w' ⟨he, hq⟩ => ⟨by rw [he]; rfl, hq⟩)
    have HS := Lib.hid hS
    have hU := ho4'.lt
    clear hS ho4 ho4' hb4 eg
    go_wp2_with fail
    refine HS.out.mono ?_
    rintro e w5 ⟨rfl, ho5, hg5⟩
    have bw5 := (bw2.trans (b24.mono bw2.size)).trans (below_of_grown hg5 (fun c e => by have := hU c e; omega) (by omega))
    clear hg5 hU
    go_wp2_with fail
    refine bodyPost_ret (v := .tuple #[.slice a4 xs.length c4, .bool true]) (by simp [results, Tryd.results24, go_sem]) rfl ?_
    have hl : (trcL n xs).length = xs.length := by rw [HL.out, ints_len, trT_len]
    refine ⟨a4, c4, by rw [hl, HB.out], ?_, bw5⟩
    rw [hl, HL.out]
    exact ho5.mono (by omega)

/-- the marks k, k + 1, .. -/
def marks (k : Int) (n : Nat) : List Int := (List.range n).map (fun (j : Nat) => k + (j : Int))
theorem marks_len (k : Int) (n : Nat) : (marks k n).length = n := by simp [marks]
theorem marks_nth {k : Int} {n j : Nat} (h : j < n) : nth (marks k n) j = k + j := by
  simp [nth, marks, h]
theorem mark_step (k : Int) (xs : List Int) (j : Nat) (h : j < xs.length) :
    ((marks k j ++ xs.drop j).map (Value.int .i64)).set j (.int .i64 (k + j)) = (marks k (j+1) ++ xs.drop (j+1)).map (Value.int .i64) := by
  apply List.ext_getElem?
  intro i
  rw [List.getElem?_set]
  by_cases hj : j = i
  · subst hj
    rw [if_pos rfl, if_pos (by simp [marks_len]; omega), List.getElem?_map, List.getElem?_append_left (by rw [marks_len]; omega)]
    simp [marks]
  · simp only [hj, if_false, List.getElem?_map, List.getElem?_append, marks_len, List.getElem?_drop]
    by_cases h1 : i < j
    · have h2 : i < j + 1 := by omega
      simp [h1, h2, marks]
    · have h2 : ¬ i < j + 1 := by omega
      have h3 : j + (i - j) = j + 1 + (i - (j + 1)) := by omega
      simp [h1, h2, h3]
theorem own_ne {v u : Value} (h : ∀ c, v.ownBlock = some c → u.ownBlock ≠ some c) : v.ownBlock = none ∨ v.ownBlock ≠ u.ownBlock := by
  cases hv : v.ownBlock with
  | none => exact .inl rfl
  | some c => exact .inr (fun e => h c hv e.symm)

theorem markIntS_any (a : Option Addr) (xs : List Int) (cap : Nat) (k : Int) (B : Nat) (w : World) (h0 : 0 ≤ k) (h1 : k ≤ 1099511627776) (hn : xs.length ≤ 1048576) (ho : OwnI w B (.slice a xs.length cap) xs) :
    Calls Tryd.prog 19 #[.slice a xs.length cap, .int .i64 k] w fun e w' => e = .returned (.int .i64 (k + xs.length)) ∧ OwnI w' B (.slice a xs.length cap) (marks k xs.length) ∧ w.grownBy w' (Value.slice a xs.length cap).ownBlock := by
  go_enter Tryd.func19, Tryd.ntmps19
  go_wp2_with fail
  go_loopw [1, 5] (fun k' i wr => ∃ j : Nat, j ≤ xs.length ∧ i = .int .i64 j ∧ k' = .int .i64 (k + j) ∧ wr.ownsRow B 3 1 (.slice a xs.length cap) xs.length ((marks k j ++ xs.drop j).map (Value.int .i64)) ∧ w.grownBy wr (Value.slice a xs.length cap).ownBlock) (fun _ i _ => xs.length - (intOf i).toNat)
  case atStart => exact ⟨0, Nat.zero_le _, rfl, by simp, by (have e : marks k 0 ++ xs.drop 0 = xs := by simp [marks]); rw [e]; exact ho, World.grownBy.refl _ _⟩
  case round =>
    obtain ⟨j, hj, rfl, rfl, hown, hg⟩ := hrel
    by_cases hlt : j < xs.length
    · obtain ⟨g, rfl⟩ : ∃ g, a = some ⟨g, 0, none⟩ := by
        rcases hown.2 with ⟨e, h⟩ | ⟨g, c, cur, e, _⟩
        · omega
        · simp only [Value.slice.injEq] at e
          exact ⟨g, e.1⟩
      have hst := World.ownsRow.stored hown j (.int .i64 (k + j))
      rw [mark_step k xs j hlt] at hst
      have hcc := World.ownsRow.cellAt hown j (by omega)
      have hfr := World.ownsRow.frozenAt hown j
      have hcc' : ∃ u, wr.cell? ⟨g, j, none⟩ = some u := by
        rw [hcc]
        exact ⟨_, List.getElem?_eq_getElem (by simp [marks_len]; omega)⟩
      obtain ⟨u, hu⟩ := hcc'
      have Hst := Lib.hid hst
      have Hg := Lib.hid (grown_trans hg hst.2)
      clear hst hcc hown hg
      go_wp2
      go_roundw
      case rel => exact ⟨j + 1, by omega, by go_num, by go_num, Hst.out.1, Hg.out⟩
      case measure => simp [intOf]; omega
    · obtain rfl : j = xs.length := by omega
      go_wp2
      go_ret
      refine ⟨rfl, ?_, hg⟩
      have e : marks k xs.length ++ xs.drop xs.length = marks k xs.length := by simp
      rw [e] at hown
      show World.ownsRow _ _ _ _ _ _ _
      rw [marks_len]
      exact hown

theorem markOrder_any (n : Int) (a : Option Addr) (xs : List Int) (cap : Nat) (k : Int) (B : Nat) (w : World) (h0 : 0 ≤ k) (h1 : k ≤ 1099511627776) (hn : xs.length ≤ 1048576) (ho : OwnI w B (.slice a xs.length cap) xs) :
    Calls Tryd.prog 18 #[.agg #[.int .i64 n, .slice a xs.length cap], .int .i64 k] w fun e w' => e = .returned (.int .i64 (k + xs.length)) ∧ OwnI w' B (.slice a xs.length cap) (marks k xs.length) ∧ w.grownBy w' (Value.slice a xs.length cap).ownBlock := by
  go_enter Tryd.func18, Tryd.ntmps18
  go_wp2_with fail
  refine (markIntS_any _ _ _ _ B _ h0 h1 hn (ho.alloc _)).mono ?_
  rintro e w1 ⟨rfl, ho1, hg1⟩
  go_wp2_with fail
  go_ret
  exact ⟨rfl, ho1, grown_alloc_set hg1⟩

theorem heldIntS_any (a : Option Addr) (n cap : Nat) (k : Int) (w : World) (h0 : 0 ≤ k) (h1 : k ≤ 1099511627776) (hn : n ≤ 1048576) (hx : Rd w a (marks k n)) :
    Calls Tryd.prog 20 #[.slice a n cap, .int .i64 k] w fun e w' => e = .returned (.int .i64 (k + n)) ∧ Below w.heap.size w w' := by
  go_enter Tryd.func20, Tryd.ntmps20
  go_wp2_with fail
  go_loop [1, 5] (fun k' i => ∃ j : Nat, j ≤ n ∧ i = .int .i64 j ∧ k' = .int .i64 (k + j)) (fun _ i => n - (intOf i).toNat)
  case atStart => exact ⟨0, Nat.zero_le _, rfl, by simp⟩
  case round =>
    obtain ⟨j, hj, rfl, rfl⟩ := hrel
    by_cases hlt : j < n
    · obtain ⟨b, off, rfl, hbl, hc⟩ := hx.cell j (by rw [marks_len]; exact hlt)
      rw [marks_nth hlt] at hc
      go_wp2_with fail
      go_round
      case rel => exact ⟨j + 1, by omega, by go_num, by go_num⟩
      case measure => simp [intOf]; omega
    · obtain rfl : j = n := by omega
      go_wp2_with fail
      go_ret
      exact ⟨rfl, (by repeat (first | exact Below.refl _ _ | assumption | refine Below.alloc ?_ (by first | exact Nat.le_refl _ | (simp only [World.size_alloc, World.size_setCell, World.size_drew]; omega) | omega) _ | refine Below.setCell ?_ (by first | exact Nat.le_refl _ | (simp only [World.size_alloc, World.size_setCell, World.size_drew]; omega) | omega) _ | refine Below.drew ?_))⟩

theorem walk (n0 : Int) (a0 : Option Addr) (xs0 : List Int) (cap0 : Nat) (w : World) (hn0 : -9223372036854775808 ≤ n0 ∧ n0 ≤ 9223372036854775807) (hx0 : Rd w a0 xs0) (hT : TabOk w) :
    Calls Tryd.prog 5 #[.agg #[.int .i64 n0, .slice a0 xs0.length cap0]] w fun e w' => e = .returned (.bool true) ∧ Below w.heap.size w w' := by
  have hR0 : (trcL n0 xs0).length ≤ 1048576 := trcL_len n0 xs0
  by_cases hs0 : 1048576 < (xs0.length : Int)
  · go_enter Tryd.func5, Tryd.ntmps5
    go_wp2_with fail
    refine (szOrder_no (by omega) (by omega) (by omega) hx0.len).mono ?_
    rintro e w1 ⟨rfl, hb1⟩
    have bw1 : Below w.heap.size w w1 := Below.trans (by repeat (first | exact Below.refl _ _ | assumption | refine Below.alloc ?_ (by first | exact Nat.le_refl _ | (simp only [World.size_alloc, World.size_setCell, World.size_drew]; omega) | omega) _ | refine Below.setCell ?_ (by first | exact Nat.le_refl _ | (simp only [World.size_alloc, World.size_setCell, World.size_drew]; omega) | omega) _ | refine Below.drew ?_)) (hb1.mono (by first | (simp only [World.size_alloc, World.size_setCell, World.size_drew]; omega) | omega))
    have A0_1 : Box2 w1 w.heap.size (.int .i64 n0) (.slice a0 xs0.length cap0) := ⟨by have := hb1.size; simp at this; omega, (hb1.cell (p := ⟨w.heap.size, 0, none⟩) (by simp <;> omega)).trans (by simp), (hb1.cell (p := ⟨w.heap.size, 1, none⟩) (by simp <;> omega)).trans (by simp)⟩
    have ⟨zA0_1, cA0_1, dA0_1⟩ := A0_1
    go_wp2_with fail
    go_ret
    exact ⟨rfl, bw1⟩
  go_enter Tryd.func5, Tryd.ntmps5
  go_wp2_with fail
  refine (szOrder_ok (by omega) (by omega)).mono ?_
  rintro e w1 ⟨rfl, hb⟩
  have bw1 : Below w.heap.size w w1 := Below.trans (by repeat (first | exact Below.refl _ _ | assumption | refine Below.alloc ?_ (by first | exact Nat.le_refl _ | (simp only [World.size_alloc, World.size_setCell, World.size_drew]; omega) | omega) _ | refine Below.setCell ?_ (by first | exact Nat.le_refl _ | (simp only [World.size_alloc, World.size_setCell, World.size_drew]; omega) | omega) _ | refine Below.drew ?_)) (hb.mono (by first | (simp only [World.size_alloc, World.size_setCell, World.size_drew]; omega) | omega))
  have z1 : w.heap.size ≤ w1.heap.size := bw1.size
  have A0_1 : Box2 w1 w.heap.size (.int .i64 n0) (.slice a0 xs0.length cap0) := ⟨by have := hb.size; simp at this; omega, (hb.cell (p := ⟨w.heap.size, 0, none⟩) (by simp <;> omega)).trans (by simp), (hb.cell (p := ⟨w.heap.size, 1, none⟩) (by simp <;> omega)).trans (by simp)⟩
  have ⟨zA0_1, cA0_1, dA0_1⟩ := A0_1
  clear hb
  go_wp2_with fail
  refine (toOrder_any _ _ _ _ _ (hx0.below bw1) (by omega)).mono ?_
  rintro e w2 ⟨pT0, qT0, rfl, ho, hb⟩
  have ht : Below w1.heap.size w1 w2 := hb
  have z2 : w1.heap.size ≤ w2.heap.size := ht.size
  have bw2 : Below w.heap.size w w2 := bw1.trans (ht.mono bw1.size)
  have A0_2 := A0_1.below ht
  have ⟨zA0_2, cA0_2, dA0_2⟩ := A0_2
  clear A0_1 cA0_1 dA0_1
  have T0_2 := ho
  have UT0 := T0_2.cut (Nat.le_refl _)
  clear ho
  clear ht hb
  go_wp2_with fail
  refine (sTrace_any _ _ _ _ _ hn0 (T0_2.rd)).mono ?_
  rintro e w3 ⟨pR0, qR0, rfl, ho0, hb⟩
  have ht : Below w2.heap.size w2 w3 := hb
  have z3 : w2.heap.size ≤ w3.heap.size := ht.size
  have bw3 : Below w.heap.size w w3 := bw2.trans (ht.mono bw2.size)
  have A0_3 := A0_2.below ht
  have ⟨zA0_3, cA0_3, dA0_3⟩ := A0_3
  have T0_3 := T0_2.below ht (Nat.le_refl _)
  clear A0_2 cA0_2 dA0_2 T0_2
  have R0_3 := ho0
  have UR0 := R0_3.cut (Nat.le_refl _)
  clear ho0
  clear ht hb
  go_wp2_with fail
  clear T0_3 UT0
  refine (toOrder_any _ _ _ _ _ (hx0.below bw3) (by omega)).mono ?_
  rintro e w4 ⟨pX0, qX0, rfl, ho, hb⟩
  have ht : Below w3.heap.size w3 w4 := hb
  have z4 : w3.heap.size ≤ w4.heap.size := ht.size
  have bw4 : Below w.heap.size w w4 := bw3.trans (ht.mono bw3.size)
  have A0_4 := A0_3.below ht
  have ⟨zA0_4, cA0_4, dA0_4⟩ := A0_4
  have R0_4 := R0_3.below ht (Nat.le_refl _)
  clear A0_3 cA0_3 dA0_3 R0_3
  have X0_4 := ho
  have UX0 := X0_4.cut (Nat.le_refl _)
  clear ho
  clear ht hb
  go_wp2_with fail
  refine (iTrace_any _ _ _ _ _ hn0 (X0_4.rd.below (by repeat (first | exact Below.refl _ _ | assumption | refine Below.alloc ?_ (by first | exact Nat.le_refl _ | (simp only [World.size_alloc, World.size_setCell, World.size_drew]; omega) | omega) _ | refine Below.setCell ?_ (by first | exact Nat.le_refl _ | (simp only [World.size_alloc, World.size_setCell, World.size_drew]; omega) | omega) _ | refine Below.drew ?_))) (hT.below (bw4.alloc bw4.size _))).mono ?_
  rintro e w5 ⟨pG0, qG0, rfl, ho0, hb⟩
  have ht : Below w4.heap.size w4 w5 := Below.trans (by repeat (first | exact Below.refl _ _ | assumption | refine Below.alloc ?_ (by first | exact Nat.le_refl _ | (simp only [World.size_alloc, World.size_setCell, World.size_drew]; omega) | omega) _ | refine Below.setCell ?_ (by first | exact Nat.le_refl _ | (simp only [World.size_alloc, World.size_setCell, World.size_drew]; omega) | omega) _ | refine Below.drew ?_)) (hb.mono (by first | (simp only [World.size_alloc, World.size_setCell, World.size_drew]; omega) | omega))
  have z5 : w4.heap.size ≤ w5.heap.size := ht.size
  have bw5 : Below w.heap.size w w5 := bw4.trans (ht.mono bw4.size)
  have A0_5 := A0_4.below ht
  have BX0_5 : Box2 w5 w4.heap.size (.int .i64 n0) (.slice pX0 xs0.length qX0) := (Box2.new w4 _ _ 28).below hb
  have ⟨zA0_5, cA0_5, dA0_5⟩ := A0_5
  have ⟨zBX0_5, cBX0_5, dBX0_5⟩ := BX0_5
  have R0_5 := R0_4.below ht (Nat.le_refl _)
  have X0_5 := X0_4.below ht (Nat.le_refl _)
  clear A0_4 cA0_4 dA0_4 R0_4 X0_4
  have G0_5 := ho0
  have UG0 := G0_5.cut (Nat.le_refl _); simp only [World.size_alloc] at UG0
  clear ho0
  clear ht hb
  go_wp2_with fail
  refine (eqIntS_any _ _ (trcL n0 xs0) (trcL n0 xs0) _ _ _ (G0_5.rd) (R0_5.rd)).mono ?_
  rw [eqL_self]
  rintro e w6 ⟨rfl, hb⟩
  have ht : Below w5.heap.size w5 w6 := hb
  have z6 : w5.heap.size ≤ w6.heap.size := ht.size
  have bw6 : Below w.heap.size w w6 := bw5.trans (ht.mono bw5.size)
  have A0_6 := A0_5.below ht
  have BX0_6 := BX0_5.below ht
  have ⟨zA0_6, cA0_6, dA0_6⟩ := A0_6
  have ⟨zBX0_6, cBX0_6, dBX0_6⟩ := BX0_6
  have R0_6 := R0_5.below ht (Nat.le_refl _)
  have X0_6 := X0_5.below ht (Nat.le_refl _)
  have G0_6 := G0_5.below ht (Nat.le_refl _)
  clear A0_5 cA0_5 dA0_5 BX0_5 cBX0_5 dBX0_5 R0_5 X0_5 G0_5
  clear ht hb
  go_wp2_with fail
  go_region_held3 (fun w' => w'.cell? ⟨w.heap.size, 0, none⟩ = some (.int .i64 n0) ∧ w'.cell? ⟨w.heap.size, 1, none⟩ = some (.slice a0 xs0.length cap0) ∧ w'.cell? ⟨w4.heap.size, 0, none⟩ = some (.int .i64 n0) ∧ w'.cell? ⟨w4.heap.size, 1, none⟩ = some (.slice pX0 xs0.length qX0))
    (first | exact ⟨P8.2.1, P8.2.2, Q8.2.1, Q8.2.2⟩ | exact ⟨P7.2.1, P7.2.2, Q7.2.1, Q7.2.2⟩ | go_keep)
    (first | (go_at_call 14; refine (toOrder_any _ _ _ _ _ (hx0.below (bw6.trans (Joins.below_draws _ _ _))) (by omega)).mono ?_; rintro e w7 ⟨a7', cap7', rfl, ho7, hb7⟩; have ht7 : Below w6.heap.size w6 w7 := (Joins.below_draws _ _ _).trans hb7; have P7 := A0_6.below ht7; have Q7 := BX0_6.below ht7) | (go_at_call 17; refine (eqOrder_any _ _ _ _ xs0 xs0 _ _ _ (X0_6.rd.below ht7) ho7.rd).mono ?_; rw [eqO_refl]; rintro e w8 ⟨rfl, hb8⟩; have P8 := P7.below hb8; have Q8 := Q7.below hb8))
  have ht : Below w6.heap.size w6 w8 := ht7.trans (hb8.mono ht7.size)
  have z8 : w6.heap.size ≤ w8.heap.size := ht.size
  have bw8 : Below w.heap.size w w8 := bw6.trans (ht.mono bw6.size)
  clear P7 Q7 P8 Q8 ho7
  have A0_8 := A0_6.below ht
  have BX0_8 := BX0_6.below ht
  have ⟨zA0_8, cA0_8, dA0_8⟩ := A0_8
  have ⟨zBX0_8, cBX0_8, dBX0_8⟩ := BX0_8
  have R0_8 := R0_6.below ht (Nat.le_refl _)
  have X0_8 := X0_6.below ht (Nat.le_refl _)
  have G0_8 := G0_6.below ht (Nat.le_refl _)
  clear A0_6 cA0_6 dA0_6 BX0_6 cBX0_6 dBX0_6 R0_6 X0_6 G0_6
  clear ht hb8 ht7 hb7
  go_wp2_with fail
  refine (markOrder_any _ _ _ _ _ _ _ (by omega) (by omega) (by omega) X0_8).mono ?_
  rintro e w9 ⟨rfl, ho, hg⟩
  have z9 : w8.heap.size ≤ w9.heap.size := hg.size
  have bw9 : Below w.heap.size w w9 := bw8.trans (below_of_grown hg (fun b e => by have := UX0 b e; omega) (by omega))
  have A0_9 := A0_8.kept hg (ne_own (fun c e => by have := UX0 c e; omega))
  have ⟨zA0_9, cA0_9, dA0_9⟩ := A0_9
  have BX0_9 := BX0_8.kept hg (ne_own (fun c e => by have := UX0 c e; omega))
  have ⟨zBX0_9, cBX0_9, dBX0_9⟩ := BX0_9
  have R0_9 := R0_8.kept hg (own_ne (fun c e e2 => by have h1 := UR0 c e; have h2 := UX0 c e2; omega))
  have G0_9 := G0_8.kept hg (own_ne (fun c e e2 => by have h1 := UG0 c e; have h2 := UX0 c e2; omega))
  clear A0_8 cA0_8 dA0_8 BX0_8 cBX0_8 dBX0_8 R0_8 X0_8 G0_8 hg
  have X0_9 := ho
  clear ho
  go_wp2_with fail
  refine (eqIntS_any _ _ (trcL n0 xs0) (trcL n0 xs0) _ _ _ (G0_9.rd) (R0_9.rd)).mono ?_
  rw [eqL_self]
  rintro e w10 ⟨rfl, hb⟩
  have ht : Below w9.heap.size w9 w10 := hb
  have z10 : w9.heap.size ≤ w10.heap.size := ht.size
  have bw10 : Below w.heap.size w w10 := bw9.trans (ht.mono bw9.size)
  have A0_10 := A0_9.below ht
  have BX0_10 := BX0_9.below ht
  have ⟨zA0_10, cA0_10, dA0_10⟩ := A0_10
  have ⟨zBX0_10, cBX0_10, dBX0_10⟩ := BX0_10
  have R0_10 := R0_9.below ht (Nat.le_refl _)
  have X0_10 := X0_9.below ht (Nat.le_refl _)
  have G0_10 := G0_9.below ht (Nat.le_refl _)
  clear A0_9 cA0_9 dA0_9 BX0_9 cBX0_9 dBX0_9 R0_9 X0_9 G0_9
  clear ht hb
  go_wp2_with fail
  refine (markIntS_any _ _ _ _ _ _ (by omega) (by omega) hR0 G0_10).mono ?_
  rintro e w11 ⟨rfl, ho, hg⟩
  have z11 : w10.heap.size ≤ w11.heap.size := hg.size
  have bw11 : Below w.heap.size w w11 := bw10.trans (below_of_grown hg (fun b e => by have := UG0 b e; omega) (by omega))
  have A0_11 := A0_10.kept hg (ne_own (fun c e => by have := UG0 c e; omega))
  have ⟨zA0_11, cA0_11, dA0_11⟩ := A0_11
  have BX0_11 := BX0_10.kept hg (ne_own (fun c e => by have := UG0 c e; omega))
  have ⟨zBX0_11, cBX0_11, dBX0_11⟩ := BX0_11
  have R0_11 := R0_10.kept hg (own_ne (fun c e e2 => by have h1 := UR0 c e; have h2 := UG0 c e2; omega))
  have X0_11 := X0_10.kept hg (own_ne (fun c e e2 => by have h1 := UX0 c e; have h2 := UG0 c e2; omega))
  clear A0_10 cA0_10 dA0_10 BX0_10 cBX0_10 dBX0_10 R0_10 X0_10 G0_10 hg
  have G0_11 := ho
  clear ho
  go_wp2_with fail
  refine (heldIntS_any _ _ _ _ _ (by omega) (by omega) hR0 G0_11.rd).mono ?_
  rintro e w12 ⟨rfl, hb⟩
  have ht : Below w11.heap.size w11 w12 := hb
  have z12 : w11.heap.size ≤ w12.heap.size := ht.size
  have bw12 : Below w.heap.size w w12 := bw11.trans (ht.mono bw11.size)
  have A0_12 := A0_11.below ht
  have BX0_12 := BX0_11.below ht
  have ⟨zA0_12, cA0_12, dA0_12⟩ := A0_12
  have ⟨zBX0_12, cBX0_12, dBX0_12⟩ := BX0_12
  have R0_12 := R0_11.below ht (Nat.le_refl _)
  have X0_12 := X0_11.below ht (Nat.le_refl _)
  have G0_12 := G0_11.below ht (Nat.le_refl _)
  clear A0_11 cA0_11 dA0_11 BX0_11 cBX0_11 dBX0_11 R0_11 X0_11 G0_11
  clear ht hb
  go_wp2_with fail
  clear X0_12 UX0
  refine (toOrder_any _ _ _ _ _ (hx0.below bw12) (by omega)).mono ?_
  rintro e w13 ⟨pV0, qV0, rfl, ho, hb⟩
  have ht : Below w12.heap.size w12 w13 := hb
  have z13 : w12.heap.size ≤ w13.heap.size := ht.size
  have bw13 : Below w.heap.size w w13 := bw12.trans (ht.mono bw12.size)
  have A0_13 := A0_12.below ht
  have BX0_13 := BX0_12.below ht
  have ⟨zA0_13, cA0_13, dA0_13⟩ := A0_13
  have ⟨zBX0_13, cBX0_13, dBX0_13⟩ := BX0_13
  have R0_13 := R0_12.below ht (Nat.le_refl _)
  have G0_13 := G0_12.below ht (Nat.le_refl _)
  clear A0_12 cA0_12 dA0_12 BX0_12 cBX0_12 dBX0_12 R0_12 G0_12
  have V0_13 := ho
  have UV0 := V0_13.cut (Nat.le_refl _)
  clear ho
  clear ht hb
  go_wp2_with fail
  refine (iTrace_any _ _ _ _ _ hn0 (V0_13.rd) (hT.below bw13)).mono ?_
  rintro e w14 ⟨pH0, qH0, rfl, ho0, hb⟩
  have ht : Below w13.heap.size w13 w14 := hb
  have z14 : w13.heap.size ≤ w14.heap.size := ht.size
  have bw14 : Below w.heap.size w w14 := bw13.trans (ht.mono bw13.size)
  have A0_14 := A0_13.below ht
  have BX0_14 := BX0_13.below ht
  have ⟨zA0_14, cA0_14, dA0_14⟩ := A0_14
  have ⟨zBX0_14, cBX0_14, dBX0_14⟩ := BX0_14
  have R0_14 := R0_13.below ht (Nat.le_refl _)
  have G0_14 := G0_13.below ht (Nat.le_refl _)
  have V0_14 := V0_13.below ht (Nat.le_refl _)
  clear A0_13 cA0_13 dA0_13 BX0_13 cBX0_13 dBX0_13 R0_13 G0_13 V0_13
  have H0_14 := ho0
  have UH0 := H0_14.cut (Nat.le_refl _)
  clear ho0
  clear ht hb
  go_wp2_with fail
  clear V0_14 UV0
  refine (eqIntS_any _ _ (trcL n0 xs0) (trcL n0 xs0) _ _ _ (H0_14.rd) (R0_14.rd)).mono ?_
  rw [eqL_self]
  rintro e w15 ⟨rfl, hb⟩
  have ht : Below w14.heap.size w14 w15 := hb
  have z15 : w14.heap.size ≤ w15.heap.size := ht.size
  have bw15 : Below w.heap.size w w15 := bw14.trans (ht.mono bw14.size)
  have A0_15 := A0_14.below ht
  have BX0_15 := BX0_14.below ht
  have ⟨zA0_15, cA0_15, dA0_15⟩ := A0_15
  have ⟨zBX0_15, cBX0_15, dBX0_15⟩ := BX0_15
  have R0_15 := R0_14.below ht (Nat.le_refl _)
  have G0_15 := G0_14.below ht (Nat.le_refl _)
  have H0_15 := H0_14.below ht (Nat.le_refl _)
  clear A0_14 cA0_14 dA0_14 BX0_14 cBX0_14 dBX0_14 R0_14 G0_14 H0_14
  clear ht hb
  go_wp2_with fail
  refine (heldIntS_any _ _ _ _ _ (by omega) (by omega) hR0 G0_15.rd).mono ?_
  rintro e w16 ⟨rfl, hb⟩
  have ht : Below w15.heap.size w15 w16 := hb
  have z16 : w15.heap.size ≤ w16.heap.size := ht.size
  have bw16 : Below w.heap.size w w16 := bw15.trans (ht.mono bw15.size)
  have A0_16 := A0_15.below ht
  have BX0_16 := BX0_15.below ht
  have ⟨zA0_16, cA0_16, dA0_16⟩ := A0_16
  have ⟨zBX0_16, cBX0_16, dBX0_16⟩ := BX0_16
  have R0_16 := R0_15.below ht (Nat.le_refl _)
  have G0_16 := G0_15.below ht (Nat.le_refl _)
  have H0_16 := H0_15.below ht (Nat.le_refl _)
  clear A0_15 cA0_15 dA0_15 BX0_15 cBX0_15 dBX0_15 R0_15 G0_15 H0_15
  clear ht hb
  go_wp2_with fail
  go_ret
  exact ⟨rfl, bw16⟩

theorem rd_of_trod {H : Type} {enc : TypeId × Value → H} {W : World} {fuel : Nat} {c : Value} {y : DataW H × List MemPlace}
    (h : DataW.trod enc Tryd.prog W 0 (fun _ => true) true fuel 22 [c] = some y) : ∃ (a : Option Addr) (xs : List Int) (cap : Nat), c = .slice a xs.length cap ∧ Rd W a xs ∧ ∀ k, k < xs.length → (Lit.int .i64 (nth xs k)).wf = true := by
  rcases Go.ChangeShapes.open_ints Tryd.underlying22 Tryd.underlying3 (by kernel_rfl) h with ⟨hcs, _⟩ | ⟨x, len, cap, zs, hcs, _, hl, hm, hz, _, hcell, hwf⟩
  · simp only [List.cons.injEq, and_true] at hcs
    exact ⟨none, [], 0, hcs, ⟨by simp, fun k hk => by simp at hk⟩, fun k hk => by simp at hk⟩
  · simp only [List.cons.injEq, and_true] at hcs
    simp only [if_true] at hz
    have hlen : (zs.take len).length = len := by rw [List.length_take]; omega
    have hn : ∀ k, k < len → nth (zs.take len) k = zs.getD k 0 := by
      intro k hk
      simp only [nth, List.getD_eq_getElem?_getD, List.getElem?_take, hk, if_true]
    refine ⟨some x, zs.take len, cap, by rw [hlen]; exact hcs, ⟨by rw [hlen]; unfold maxLen at hm; omega, fun k hk => ?_⟩, fun k hk => ?_⟩
    · rw [hlen] at hk
      obtain ⟨b, off, sp⟩ := x
      have h0 := hcell 0 (by omega)
      have hsp : sp = none := by simpa [Addr.add] using World.cell?_spot h0
      subst hsp
      have hk' := hcell k (by omega)
      rw [Addr.add_lit] at hk'
      exact ⟨b, off, rfl, World.block_lt_of_cell? _ _ h0, by rw [hk', hn k hk]⟩
    · rw [hlen] at hk
      rw [hn k hk]
      have hk2 : k < zs.length := by omega
      exact hwf _ (by rw [List.getD_eq_getElem?_getD, List.getElem?_eq_getElem hk2]; exact List.getElem_mem hk2)

theorem own : ownKnob Tryd.prog.godebug = none := by kernel_rfl
theorem laidOut : laidOutB Tryd.prog = true := by kernel_rfl
theorem wf_bd {n : Int} (h : (Lit.int .i64 n).wf = true) : -9223372036854775808 ≤ n ∧ n ≤ 9223372036854775807 := by
  simp [Lit.wf, IntKind.min, IntKind.max, IntKind.bits, IntKind.signed] at h
  omega

theorem cellsO : Tryd.prog.cellsOf 24 = 2 := by kernel_rfl



open Go.ChangeShapes Go.WideShapes Go.ChangeAt Go.RowKit in
set_option maxRecDepth 100000 in
theorem lifted (os : Os) (started : os.Started) (H : Type) (enc : TypeId × Value → H) :
    ReturnsInHanded {} Tryd.checked os 5 .any (fun w args => (Rows.fnExactTraceListSpec.pre enc Tryd.prog Tryd.f5 [] false w args ∧ laidMetH Tryd.prog ldT w) ∧ sizedMet enc Tryd.prog Tryd.f5 (OpenSpec.ofChange Rows.fnExactTraceListSpec) false w args) (Rows.fnExactTraceListSpec.post enc Tryd.prog Tryd.f5 false true false false) := by
  refine returnsInHanded_of_change_and (C := Tryd.checked) (X := fun w _ => laidMetH Tryd.prog ldT w) (fun _ _ _ hh h => h.of_heap hh) own started (by kernel_rfl) Tryd.func5
    (ChangeSpec.witness_shaped (enc := enc) (C := Tryd.checked) (os := os) (X := fun w _ => laidMetH Tryd.prog ldT w) false (World.doorLaid Tryd.prog 400 os) #[.agg #[.int .i64 0, .slice none 0 0]] 8 rfl (World.shaped_of_RefB (by kernel_rfl) (by kernel_rfl)) (by kernel_rfl) (by kernel_rfl) (by kernel_rfl) (door_met os _)) ?_
  intro W base args ds gs before hval0 hW _ _ hL _
  have hval : ∀ (j : Nat) t v, Tryd.f5.params[j]? = some t → args[j]? = some v → Value.okWide Tryd.prog W .any base t v := hval0
  have hW' := hW
  obtain ⟨p, q, hA0, hV, rfl, hfz, hnd⟩ := hW
  have hA : DataW.TrodAll enc Tryd.prog W 0 (fun _ => true) true Tryd.f5.params.toList args.toList ds p := hA0
  rw [Tryd.params5] at hA hval
  obtain ⟨v0, vs0, d0, ds0, p0, q0, hargs, rfl, rfl, h0, r0⟩ := trodAll_cons hA
  obtain ⟨rfl, rfl, rfl⟩ := trodAll_nil r0
  obtain rfl : args = #[v0] := by cases args; simp_all
  obtain ⟨rfl, rfl⟩ := trodVars_none hV
  have lt0 : ∀ x ∈ p0, x.block < W.heap.size := by obtain ⟨m, hm⟩ := h0; exact DataW.trod_lt m _ _ _ hm
  obtain ⟨c00, c01, y00, y01, m0, rfl, hd0, hp0, hy00, hy01⟩ := Go.Joins.open_agg2 Tryd.underlying24 (by kernel_rfl) cellsO (hval 0 24 v0 rfl rfl) h0
  obtain ⟨n0, e00, _, wf0⟩ := DataW.trod_int Tryd.underlying3 hy00
  simp only [List.cons.injEq, and_true] at e00
  subst e00
  obtain ⟨a0, xs0, cap0, rfl, rd0, wl0⟩ := rd_of_trod hy01
  clear hA0 hval0
  refine (walk n0 a0 xs0 cap0 W (wf_bd wf0) rd0 (of_laid hL)).mono fun e W' ⟨he, bel⟩ => ?_
  subst he
  exact ⟨_, rfl, _, _, _, [], _, [], hW', trodAll_mk1 (shut_bool Tryd.underlying4 _), (trodAll_cons_mk (Below.trod laidOut (by kernel_rfl) (of_decide_eq_true (by kernel_rfl)) h0 bel lt0) trodAll_mk0), rfl, bel.frame _, fun h => by cases h⟩
theorem row_holds : Rows.FnExactTraceListSaid :=
  OpenClaim.holds_of_wide 5 Tryd.f5 rfl rfl rfl rfl rfl rfl rfl ⟨rfl, rfl, rfl, rfl, rfl⟩ rfl rfl rfl rfl rfl (by kernel_rfl) Tryd.func5 (by kernel_rfl)
    (of_decide_eq_true (by kernel_rfl)) (by unfold Func.isWrapper; first | (rw [if_pos (by decide +kernel)]; kernel_rfl) | (rw [if_neg (by decide +kernel)]; exact ⟨rfl, rfl⟩))
    (fun os started H enc _ => lifted os started H enc)
theorem proved : Rows.FnExactTraceListCardSaid :=
  Claim7.holds_tied_plain_at .later [] [.data, .data] true (true, _) false
    row_holds (fun _ h => by cases h) (by kernel_rfl) (fun _ h => by cases h) fnExactTraceList_row_tie rfl ⟨rfl, rfl⟩ (by kernel_rfl) rfl
    (fun f fn hf hfn => by
      obtain rfl : f = 5 := Option.some.inj ((show Tryd.prog.funcNamed "loop.example/g01106/laws.FnExactTraceList" = some 5 by kernel_rfl).symm.trans hf) |>.symm
      obtain rfl : fn = Tryd.f5 := (Option.some.inj (Tryd.func5.symm.trans hfn)).symm
      exact ⟨by kernel_rfl, fun j t ht => by
        rw [Tryd.params5] at ht
        have hm : t ∈ [24] := by simpa using Array.mem_of_getElem? ht
        have hall : ([24].all fun u => !Tryd.prog.wantsStandIn u) = true := by kernel_rfl
        exact (show Tryd.prog.wantsStandIn t = false by simpa using List.all_eq_true.1 hall t hm)⟩)
    (by kernel_rfl)

end Go.Proofs.YtnbgpelnihchoaaDoor.traceList
