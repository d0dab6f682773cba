/- PROVED: the law FnExactMirrorStair returns true for every input, and each of its arguments reads afterwards as before. No conditions. -/
import Derived.Test.YtnbgpelnihchoaaDoorRows
import Derived.WalkKit
import Derived.WalkSpells
import Derived.WalkLawsBesides
import Derived.Deep.QuietTactic
import Derived.BigQuiet
import Derived.ProofKit
import Derived.OpenShut
import Derived.ShutString
import Derived.ChangeOld
import Derived.Below
import Derived.Lib.SmallJoins
import Derived.Lib.Hide
import Derived.Deep.RegionHeld3
import Derived.Deep.AppendLies
import Derived.Deep.RegionLaw
import Derived.LaidMore
import Derived.Stop.Joined
import Derived.WalkMore
import Derived.Shelf.Small.Bits
import Derived.Shelf.Small.Wraps
import Derived.Shelf.Strconv.Itoa0
import Derived.Shelf.Sort.Plain
import Derived.Shelf.Slices.Clone
import Derived.Shelf.Slices.SearchI
import Derived.Shelf.Slices.In.SortNone
import Derived.Shelf.SlicesE.Clone
import Derived.Shelf.SlSortCmp.Insertion
import Derived.Shelf.SlSortCmp.SiftDown1
import Derived.Shelf.SlSortCmp.HeapSort1
import Derived.Shelf.SlSortCmp.Insertion1
import Derived.Shelf.SlSortCmp.Median1
import Derived.Shelf.SlSortCmp.Pivot1
import Derived.Shelf.SlSortCmp.ReverseRange1
import Derived.Shelf.SlSortCmp.PartialInsertion1
import Derived.Shelf.SlSortCmp.PartitionEqual1
import Derived.Shelf.SlSortCmp.Partition1
import Derived.Shelf.SlSortCmp.Pdq1
import Derived.Shelf.SlSortCmp.Whole1
import Derived.Shelf.SlSortCmp.NoneTotal
import Derived.Sort.OwnSortedInts
import Derived.Test.YtnbgpelnihchoaaDoorTie
import Derived.Test.YtnbgpelnihchoaaDoorCards
import Derived.SevenTiedAt
import Derived.Test.YtnbgpelnihchoaaDoorMirrorStairP1
namespace Go.Proofs.YtnbgpelnihchoaaDoor.mirrorStair
open Go Go.RowKit
set_option linter.unusedVariables false
set_option linter.unusedSimpArgs false
set_option maxHeartbeats 400000
open Go.Shelf
/-- the pairs of the first k elements and those of k with the first m refuse nothing -/
def NoTwo (xs : List Int) (k m : Nat) : Prop := (∀ a, a < k → ∀ b, b < xs.length → pairF xs a b = none) ∧ ∀ b, b < m → pairF xs k b = none
theorem pairF_no {xs : List Int} {a b : Nat} (h : hasB (nth xs a) b = false) : pairF xs a b = none := by simp [pairF, h]
theorem pairF_none {xs : List Int} {a b : Nat} (h : secF xs a b = none) : pairF xs a b = none := by simp [pairF, h]
theorem NoTwo.next {xs : List Int} {k m : Nat} (h : NoTwo xs k m) (h1 : pairF xs k m = none) : NoTwo xs k (m+1) :=
  ⟨h.1, fun b hb => by
    by_cases e : b = m
    · rw [e]; exact h1
    · exact h.2 b (by omega)⟩
theorem NoTwo.row {xs : List Int} {k : Nat} (h : NoTwo xs k xs.length) : NoTwo xs (k+1) 0 :=
  ⟨fun a ha b hb => by
    by_cases e : a = k
    · rw [e]; exact h.2 b hb
    · exact h.1 a (by omega) b hb, fun b hb => by omega⟩
theorem NoTwo.none {xs : List Int} {m : Nat} (h : NoTwo xs xs.length m) : twoF xs = none := find1_none (fun a ha => find1_none (fun b hb => h.1 a ha b hb))
theorem NoTwo.some {xs : List Int} {k m : Nat} {ys : List Int} (h : NoTwo xs k m) (hk : k < xs.length) (hm : m < xs.length) (h1 : pairF xs k m = .some ys) : twoF xs = .some ys :=
  find1_some hk (find1_some hm h1 (fun b hb => h.2 b hb)) (fun a ha => find1_none (fun b hb => h.1 a ha b hb))
theorem iTwoTwo_any (n : Int) (a : Option Addr) (xs : List Int) (cap : Nat) (w : World) (hn : -9223372036854775808 ≤ n ∧ n ≤ 9223372036854775807) (hx : Rd w a xs) :
    Calls Tryd.prog 78 #[.agg #[.int .i64 n, .slice a xs.length cap]] w fun e w' => ∃ a' cap', e = .returned (.tuple #[.slice a' (twoL n xs).length cap', .bool (twoB n xs)]) ∧ OwnI w' w.heap.size (.slice a' (twoL n xs).length cap') (twoL n xs) ∧ Below w.heap.size w w' := by
  have hx1 := hx.alloc (.cells #[.int .i64 n, .slice a xs.length cap] 28)
  cases hr : ordB n xs
  · have H1 : Hid (twoL n xs = []) := by simp [Hid, twoL, hr]
    have H2 : Hid (twoB n xs = false) := by simp [Hid, twoB, hr]
    go_enter Tryd.func78, Tryd.ntmps78
    go_wp2_with fail
    refine (iIsOrder_any _ _ _ _ _ hn hx1).mono ?_
    rw [hr]
    rintro e w1 ⟨rfl, hb1⟩
    have bw1 : Below w.heap.size w w1 := Below.trans (by repeat (first | exact Below.refl _ _ | assumption | refine Below.alloc ?_ (by first | exact Nat.le_refl _ | (simp only [World.size_alloc, World.size_setCell, World.size_drew]; omega) | omega) _ | refine Below.setCell ?_ (by first | exact Nat.le_refl _ | (simp only [World.size_alloc, World.size_setCell, World.size_drew]; omega) | omega) _ | refine Below.drew ?_)) (hb1.mono (by first | (simp only [World.size_alloc, World.size_setCell, World.size_drew]; omega) | omega))
    go_wp2_with fail
    refine bodyPost_ret (v := .tuple #[.slice none 0 0, .bool false]) (by simp [results, Tryd.results78, go_sem]) rfl ?_
    exact ⟨none, 0, by rw [H1.out, H2.out]; rfl, by rw [H1.out]; exact OwnI.nil _ _, bw1⟩
  · have hp := ord_rel hr
    have hl10 : xs.length ≤ 10 := by have := hp.len; have := hp.n1; omega
    have HR := Lib.hid hr
    obtain rfl : n = (xs.length : Int) := hp.len.symm
    clear hr
    go_enter Tryd.func78, Tryd.ntmps78
    go_wp2_with fail
    refine (iIsOrder_any _ _ _ _ _ hn hx1).mono ?_
    rw [HR.out]
    rintro e w1 ⟨rfl, hb1⟩
    have A1 : Box2 w1 w.heap.size (.int .i64 (xs.length : Int)) (.slice a xs.length cap) := (Box2.new w _ _ _).below hb1
    have bw1 : Below w.heap.size w w1 := Below.trans (by repeat (first | exact Below.refl _ _ | assumption | refine Below.alloc ?_ (by first | exact Nat.le_refl _ | (simp only [World.size_alloc, World.size_setCell, World.size_drew]; omega) | omega) _ | refine Below.setCell ?_ (by first | exact Nat.le_refl _ | (simp only [World.size_alloc, World.size_setCell, World.size_drew]; omega) | omega) _ | refine Below.drew ?_)) (hb1.mono (by first | (simp only [World.size_alloc, World.size_setCell, World.size_drew]; omega) | omega))
    have ⟨zA, cA, dA⟩ := A1
    clear hb1
    go_wp2_with fail
    clear cA dA
    go_loopw [14] (fun i' wr => ∃ k : Nat, k ≤ xs.length ∧ i' = .int .i64 k ∧ NoTwo xs k 0 ∧ Below w.heap.size w wr ∧ Box2 wr w.heap.size (.int .i64 (xs.length : Int)) (.slice a xs.length cap)) (fun i' _ => xs.length - (intOf i').toNat)
    case atStart => exact ⟨0, Nat.zero_le _, rfl, ⟨fun c hc => by omega, fun b hb => by omega⟩, bw1, A1⟩
    case round =>
      obtain ⟨k, hk, rfl, hall, hb, hB⟩ := hrel
      obtain ⟨wo, rfl⟩ : ∃ wo : World, wo = wr := ⟨_, rfl⟩
      have ⟨zr, cr, dr⟩ := hB
      have HA := Lib.hid hall
      clear hall
      by_cases hlt : k < xs.length
      · have pk := hp.pos k hlt
        have sk : nth xs k ≤ 9223372036854775807 := by have := hp.small k hlt; omega
        have k0 : (0 : Int) ≤ (k : Int) := by omega
        have k1 : (k : Int) < (xs.length : Int) := by omega
        go_wp2_with fail
        clear cr dr
        go_loopw [19] (fun i' wr => ∃ m : Nat, m ≤ xs.length ∧ i' = .int .i64 m ∧ NoTwo xs k m ∧ Below w.heap.size w wr ∧ Box2 wr w.heap.size (.int .i64 (xs.length : Int)) (.slice a xs.length cap)) (fun i' _ => xs.length - (intOf i').toNat)
        case atStart => exact ⟨0, Nat.zero_le _, rfl, HA.out, hb, hB⟩
        case round =>
          obtain ⟨m, hm, rfl, hall2, hb2, hB2⟩ := hrel
          have ⟨zr2, cr2, dr2⟩ := hB2
          have HA2 := Lib.hid hall2
          clear hall2
          by_cases hlt2 : m < xs.length
          · obtain ⟨b, off, rfl, hbl, hck⟩ := (hx.below hb2).cell k hlt
            have m0 : (0 : Int) ≤ (m : Int) := by omega
            have m1 : (m : Int) < (xs.length : Int) := by omega
            cases h1 : hasB (nth xs k) m
            · have hfin := Lib.hid (HA2.out.next (pairF_no h1))
              go_wp2_with (go_at_call 43; refine (hasElement_any _ _ _ (by assumption) (by assumption) (by assumption)).mono ?_; rintro e w' ⟨rfl, rfl⟩)
              go_roundw
              case rel => exact ⟨m + 1, by omega, by go_num, hfin.out, hb2, hB2⟩
              case measure => simp [intOf]; omega
            · have HX := Lib.hid h1
              go_wp2_with (go_at_call 43; refine (hasElement_any _ _ _ (by assumption) (by assumption) (by assumption)).mono ?_; rintro e w' ⟨rfl, rfl⟩)
              clear h1
              refine (secondPair_any _ _ _ _ _ _ _ (hx.below hb2) hp hlt).mono ?_
              cases hs : secF xs k m with
              | none =>
                have hfin := Lib.hid (HA2.out.next (pairF_none hs))
                have e1 : sec1 xs k m = 0 := by simp only [sec1, hs]
                have e2 : sec2 xs k m = 0 := by simp only [sec2, hs]
                rw [e1, e2]
                simp only [Option.isSome_none]
                clear hs e1 e2
                rintro e w3 ⟨rfl, hb3⟩
                have B3 := hB2.below hb3
                have bw3 := hb2.trans (hb3.mono hb2.size)
                go_wp2_with fail
                go_roundw
                case rel => exact ⟨m + 1, by omega, by go_num, hfin.out, bw3, B3⟩
                case measure => simp [intOf]; omega
              | some p =>
                have hp2 : pairF xs k m = some [(k : Int), (m : Int), (p.1 : Int), (p.2 : Int)] := by simp only [pairF, HX.out, hs]; rfl
                have ht := HA2.out.some hlt hlt2 hp2
                have H1 : Hid (twoL (xs.length : Int) xs = [(k : Int), (m : Int), (p.1 : Int), (p.2 : Int)]) := by simp only [Hid, twoL, HR.out, ht]; rfl
                have H2 : Hid (twoB (xs.length : Int) xs = true) := by simp only [Hid, twoB, HR.out, ht]; rfl
                have e1 : sec1 xs k m = (p.1 : Int) := by simp only [sec1, hs]
                have e2 : sec2 xs k m = (p.2 : Int) := by simp only [sec2, hs]
                rw [e1, e2]
                simp only [Option.isSome_some]
                clear hs e1 e2 hp2 ht
                rintro e w3 ⟨rfl, hb3⟩
                have bw3 := hb2.trans (hb3.mono hb2.size)
                go_wp2_with fail
                refine bodyPost_ret (v := .tuple #[.slice (some ⟨w3.heap.size, 0, none⟩) 4 4, .bool true]) (by simp [results, Tryd.results78, go_sem]) rfl ?_
                refine ⟨some ⟨w3.heap.size, 0, none⟩, 4, by rw [H1.out, H2.out]; rfl, ?_, bw3.alloc bw3.size _⟩
                rw [H1.out]
                exact (OwnI.new w3 [(k : Int), (m : Int), (p.1 : Int), (p.2 : Int)] (by simp)).mono bw3.size
          · obtain rfl : m = xs.length := by omega
            have hfin := Lib.hid HA2.out.row
            go_wp2_with fail
            go_roundw
            case rel => exact ⟨k + 1, by omega, by go_num, hfin.out, hb2, hB2⟩
            case measure => simp [intOf]; omega
      · obtain rfl : k = xs.length := by omega
        have ht := HA.out.none
        have H1 : Hid (twoL (xs.length : Int) xs = []) := by simp only [Hid, twoL, HR.out, ht]; rfl
        have H2 : Hid (twoB (xs.length : Int) xs = false) := by simp only [Hid, twoB, HR.out, ht]; rfl
        clear ht
        go_wp2_with fail
        refine bodyPost_ret (v := .tuple #[.slice none 0 0, .bool false]) (by simp [results, Tryd.results78, go_sem]) rfl ?_
        exact ⟨none, 0, by rw [H1.out, H2.out]; rfl, by rw [H1.out]; exact OwnI.nil _ _, hb⟩

theorem ret_bb {a b c d : Bool} (h : a = b) (h2 : c = d) : Ending.returned (.tuple #[.bool a, .bool c]) = .returned (.tuple #[.bool b, .bool d]) := by rw [h, h2]
theorem ret_ib {a b : Int} {c d : Bool} (h : a = b) (h2 : c = d) : Ending.returned (.tuple #[.int .i64 a, .bool c]) = .returned (.tuple #[.int .i64 b, .bool d]) := by rw [h, h2]

def isIv (n : Int) (xs : List Int) : Bool := ordB n xs && !(twoF xs).isSome
theorem iIsInterval_any (n : Int) (a : Option Addr) (xs : List Int) (cap : Nat) (w : World) (hn : -9223372036854775808 ≤ n ∧ n ≤ 9223372036854775807) (hx : Rd w a xs) :
    Calls Tryd.prog 47 #[.agg #[.int .i64 n, .slice a xs.length cap]] w fun e w' => e = .returned (.tuple #[.bool (isIv n xs), .bool (ordB n xs)]) ∧ Below w.heap.size w w' := by
  have hx1 := hx.alloc (.cells #[.int .i64 n, .slice a xs.length cap] 28)
  cases hr : ordB n xs
  · have H1 : Hid (isIv n xs = false) := by simp [Hid, isIv, hr]
    go_enter Tryd.func47, Tryd.ntmps47
    go_wp2_with fail
    refine (iIsOrder_any _ _ _ _ _ hn hx1).mono ?_
    rw [hr]
    rintro e w1 ⟨rfl, hb1⟩
    have bw1 : Below w.heap.size w w1 := Below.trans (by repeat (first | exact Below.refl _ _ | assumption | refine Below.alloc ?_ (by first | exact Nat.le_refl _ | (simp only [World.size_alloc, World.size_setCell, World.size_drew]; omega) | omega) _ | refine Below.setCell ?_ (by first | exact Nat.le_refl _ | (simp only [World.size_alloc, World.size_setCell, World.size_drew]; omega) | omega) _ | refine Below.drew ?_)) (hb1.mono (by first | (simp only [World.size_alloc, World.size_setCell, World.size_drew]; omega) | omega))
    go_wp2_with fail
    go_ret2
    exact ⟨ret_bb H1.out.symm rfl, bw1⟩
  · have H1 : Hid (isIv n xs = !(twoF xs).isSome) := by simp [Hid, isIv, hr]
    have H2 : Hid (twoB n xs = (twoF xs).isSome) := by simp [Hid, twoB, hr]
    go_enter Tryd.func47, Tryd.ntmps47
    go_wp2_with fail
    refine (iIsOrder_any _ _ _ _ _ hn hx1).mono ?_
    rw [hr]
    rintro e w1 ⟨rfl, hb1⟩
    have A1 : Box2 w1 w.heap.size (.int .i64 n) (.slice a xs.length cap) := (Box2.new w _ _ _).below hb1
    have bw1 : Below w.heap.size w w1 := Below.trans (by repeat (first | exact Below.refl _ _ | assumption | refine Below.alloc ?_ (by first | exact Nat.le_refl _ | (simp only [World.size_alloc, World.size_setCell, World.size_drew]; omega) | omega) _ | refine Below.setCell ?_ (by first | exact Nat.le_refl _ | (simp only [World.size_alloc, World.size_setCell, World.size_drew]; omega) | omega) _ | refine Below.drew ?_)) (hb1.mono (by first | (simp only [World.size_alloc, World.size_setCell, World.size_drew]; omega) | omega))
    have ⟨zA, cA, dA⟩ := A1
    clear hb1 hr
    go_wp2_with fail
    refine (iTwoTwo_any _ _ _ _ _ hn (hx.below bw1)).mono ?_
    rintro e w2 ⟨a2, cap2, rfl, ho2, hb2⟩
    clear ho2
    go_wp2_with fail
    go_ret2
    exact ⟨ret_bb (by rw [H1.out, H2.out]) rfl, bw1.trans (hb2.mono bw1.size)⟩

theorem sem_eq {n : Int} {xs : List Int} : semB n xs = (isIv n xs && !(thrO n xs)) := by
  unfold semB isIv thrO
  cases h : ordB n xs
  · simp
  · rw [tw_two h]
    cases (twoF xs).isSome <;> cases (thrF xs).isSome <;> rfl
theorem iSemi_any (n : Int) (a : Option Addr) (xs : List Int) (cap : Nat) (w : World) (hn : -9223372036854775808 ≤ n ∧ n ≤ 9223372036854775807) (hx : Rd w a xs) (hT : TabOk w) :
    Calls Tryd.prog 22 #[.agg #[.int .i64 n, .slice a xs.length cap]] w fun e w' => e = .returned (.tuple #[.bool (semB n xs), .bool (ordB n xs)]) ∧ Below w.heap.size w w' := by
  have hx1 := hx.alloc (.cells #[.int .i64 n, .slice a xs.length cap] 28)
  have HE := Lib.hid (sem_eq (n := n) (xs := xs))
  go_enter Tryd.func22, Tryd.ntmps22
  go_wp2_with fail
  refine (iIsInterval_any _ _ _ _ _ hn hx1).mono ?_
  rintro e w1 ⟨rfl, hb1⟩
  have A1 : Box2 w1 w.heap.size (.int .i64 n) (.slice a xs.length cap) := (Box2.new w _ _ _).below hb1
  have bw1 : Below w.heap.size w w1 := Below.trans (by repeat (first | exact Below.refl _ _ | assumption | refine Below.alloc ?_ (by first | exact Nat.le_refl _ | (simp only [World.size_alloc, World.size_setCell, World.size_drew]; omega) | omega) _ | refine Below.setCell ?_ (by first | exact Nat.le_refl _ | (simp only [World.size_alloc, World.size_setCell, World.size_drew]; omega) | omega) _ | refine Below.drew ?_)) (hb1.mono (by first | (simp only [World.size_alloc, World.size_setCell, World.size_drew]; omega) | omega))
  have ⟨zA, cA, dA⟩ := A1
  clear hb1
  go_wp2_with fail
  refine (iThree_any _ _ _ _ _ hn (hx.below bw1) (hT.below bw1)).mono ?_
  rintro e w2 ⟨a2, c2, rfl, ho2, hb2⟩
  have bw2 := bw1.trans (hb2.mono bw1.size)
  clear ho2 hb2
  cases h1 : isIv n xs
  · have HF : Hid (semB n xs = false) := by rw [Hid, HE.out, h1]; rfl
    go_wp2_with fail
    go_ret2
    exact ⟨ret_bb HF.out.symm rfl, bw2⟩
  · have HF : Hid (semB n xs = !thrO n xs) := by rw [Hid, HE.out, h1]; rfl
    go_wp2_with fail
    go_ret2
    exact ⟨ret_bb (by rw [HF.out]) rfl, bw2⟩

def oc1 (s : Int) : Int := IntKind.u64.wrap (bits .and .u64 (s / 2) 6148914691236517205 + bits .and .u64 s 6148914691236517205)
def oc2 (s : Int) : Int := IntKind.u64.wrap (bits .and .u64 (oc1 s / 4) 3689348814741910323 + bits .and .u64 (oc1 s) 3689348814741910323)
def oc3 (s : Int) : Int := bits .and .u64 (IntKind.u64.wrap (oc2 s / 16 + oc2 s)) 1085102592571150095
def oc4 (s : Int) : Int := IntKind.u64.wrap (oc3 s + oc3 s / 256)
def oc5 (s : Int) : Int := IntKind.u64.wrap (oc4 s + oc4 s / 65536)
def oc6 (s : Int) : Int := IntKind.u64.wrap (oc5 s + oc5 s / 4294967296)
theorem oc_all : ∀ s : Fin 1024, bits .and .i64 (IntKind.i64.wrap (oc6 (s.val : Int))) 127 = ((elems s.val).length : Int) := by decide +kernel
theorem oc_eq {s : Nat} (h : s < 1024) : bits .and .i64 (wrap64 (oc6 (s : Int))) 127 = ((elems s).length : Int) := by
  rw [← IntWalk.i64_left]
  exact oc_all ⟨s, h⟩
theorem ones64_any (s : Nat) (w : World) (h1 : s < 1024) :
    Calls Tryd.prog 113 #[.int .u64 (s : Int)] w fun e w' => e = .returned (.int .i64 ((elems s).length : Int)) ∧ w = w' := by
  go_enter Tryd.func113, Tryd.ntmps113
  go_wp2_with fail
  go_ret
  refine ⟨?_, rfl⟩
  rw [← oc_eq h1]
  rfl
theorem ones_any (s : Nat) (w : World) (h1 : s < 1024) :
    Calls Tryd.prog 84 #[.int .u64 (s : Int)] w fun e w' => e = .returned (.int .i64 ((elems s).length : Int)) ∧ w = w' := by
  go_enter Tryd.func84, Tryd.ntmps84
  go_wp2_with fail
  refine (ones64_any s _ h1).mono ?_
  rintro e w' ⟨rfl, rfl⟩
  go_wp2_with fail
  go_ret
  exact ⟨rfl, rfl⟩
theorem countElements_any (s : Nat) (w : World) (h1 : s < 1024) :
    Calls Tryd.prog 55 #[.int .i64 (s : Int)] w fun e w' => e = .returned (.int .i64 ((elems s).length : Int)) ∧ w = w' := by
  have s1 : (s : Int) < 1024 := by omega
  go_enter Tryd.func55, Tryd.ntmps55
  go_wp2_with fail
  refine (ones_any s _ h1).mono ?_
  rintro e w' ⟨rfl, rfl⟩
  go_wp2_with fail
  go_ret
  exact ⟨rfl, rfl⟩



def Sh_lays189_ren : Go.Shelf.Ren := ⟨fun | 189 => 57 | 125 => 82 | 257 => 85 | 128 => 110 | 129 => 111 | 294 => 114 | 295 => 115 | 296 => 116 | 297 => 117 | 298 => 118 | 299 => 119 | 216 => 120 | 300 => 121 | 301 => 122 | 328 => 129 | 329 => 125 | 330 => 126 | 331 => 130 | 332 => 131 | 215 => 83 | 343 => 133 | n => n, fun | 28 => 22 | 3 => 3 | 46 => 58 | 0 => 0 | 51 => 71 | 53 => 73 | 4 => 4 | 183 => 78 | 182 => 77 | 131 => 65 | 5 => 5 | 9 => 9 | 218 => 89 | 222 => 93 | 228 => 97 | 229 => 98 | n => n, fun | n => n⟩
theorem Sh_lays189 : Go.Proofs.Lays.n189 Tryd.prog Sh_lays189_ren := {
  mixed := by kernel_rfl
  f125 := Tryd.func82.trans (congrArg some (by kernel_rfl))
  f128 := Tryd.func110.trans (congrArg some (by kernel_rfl))
  f129 := Tryd.func111.trans (congrArg some (by kernel_rfl))
  f189 := Tryd.func57.trans (congrArg some (by kernel_rfl))
  f215 := Tryd.func83.trans (congrArg some (by kernel_rfl))
  f216 := Tryd.func120.trans (congrArg some (by kernel_rfl))
  f257 := Tryd.func85.trans (congrArg some (by kernel_rfl))
  f294 := Tryd.func114.trans (congrArg some (by kernel_rfl))
  f295 := Tryd.func115.trans (congrArg some (by kernel_rfl))
  f296 := Tryd.func116.trans (congrArg some (by kernel_rfl))
  f297 := Tryd.func117.trans (congrArg some (by kernel_rfl))
  f298 := Tryd.func118.trans (congrArg some (by kernel_rfl))
  f299 := Tryd.func119.trans (congrArg some (by kernel_rfl))
  f300 := Tryd.func121.trans (congrArg some (by kernel_rfl))
  f301 := Tryd.func122.trans (congrArg some (by kernel_rfl))
  f328 := Tryd.func129.trans (congrArg some (by kernel_rfl))
  f329 := Tryd.func125.trans (congrArg some (by kernel_rfl))
  f330 := Tryd.func126.trans (congrArg some (by kernel_rfl))
  f331 := Tryd.func130.trans (congrArg some (by kernel_rfl))
  f332 := Tryd.func131.trans (congrArg some (by kernel_rfl))
  f343 := Tryd.func133.trans (congrArg some (by kernel_rfl))
  t0 := Tryd.underlying0
  a0 := Tryd.isAgg0
  z0 := Tryd.sizeOf0
  v0 := Tryd.zeroValue0
  t3 := Tryd.underlying3
  a3 := Tryd.isAgg3
  z3 := Tryd.sizeOf3
  v3 := Tryd.zeroValue3
  t4 := Tryd.underlying4
  a4 := Tryd.isAgg4
  z4 := Tryd.sizeOf4
  v4 := Tryd.zeroValue4
  t5 := Tryd.underlying5
  a5 := Tryd.isAgg5
  z5 := Tryd.sizeOf5
  v5 := Tryd.zeroValue5
  t9 := Tryd.underlying9
  a9 := Tryd.isAgg9
  z9 := Tryd.sizeOf9
  v9 := Tryd.zeroValue9
  t28 := Tryd.underlying22
  a28 := Tryd.isAgg22
  z28 := Tryd.sizeOf22
  v28 := Tryd.zeroValue22
  t46 := Tryd.underlying58
  a46 := Tryd.isAgg58
  z46 := Tryd.sizeOf58
  v46 := Tryd.zeroValue58
  t51 := Tryd.underlying71
  a51 := Tryd.isAgg71
  z51 := Tryd.sizeOf71
  v51 := Tryd.zeroValue71
  t53 := Tryd.underlying73
  a53 := Tryd.isAgg73
  z53 := Tryd.sizeOf73
  v53 := Tryd.zeroValue73
  t131 := Tryd.underlying65
  a131 := Tryd.isAgg65
  z131 := Tryd.sizeOf65
  v131 := Tryd.zeroValue65
  t182 := Tryd.underlying77
  a182 := Tryd.isAgg77
  z182 := Tryd.sizeOf77
  v182 := Tryd.zeroValue77
  t183 := Tryd.underlying78
  a183 := Tryd.isAgg78
  z183 := Tryd.sizeOf78
  v183 := Tryd.zeroValue78
  t218 := Tryd.underlying89
  a218 := Tryd.isAgg89
  z218 := Tryd.sizeOf89
  v218 := Tryd.zeroValue89
  t222 := Tryd.underlying93
  a222 := Tryd.isAgg93
  z222 := Tryd.sizeOf93
  v222 := Tryd.zeroValue93
  t228 := Tryd.underlying97
  a228 := Tryd.isAgg97
  z228 := Tryd.sizeOf97
  v228 := Tryd.zeroValue97
  t229 := Tryd.underlying98
  a229 := Tryd.isAgg98
  z229 := Tryd.sizeOf98
  v229 := Tryd.zeroValue98 }

open Go.Sort Go.RowKit in
theorem Sh_slices_Sort_int (blk off cap : Nat) (zs : List Int) (w : World) (hH : Holds (Value.int .i64) w blk off zs.toArray) (hblk : blk < w.heap.size) (hsz : zs.length < 4611686018427387904) :
    Calls Tryd.prog 57 #[.slice (some ⟨blk, off, none⟩) zs.length cap] w fun e w' =>
      e = .returned (.tuple #[]) ∧ ∃ n os, w' = grow (putRow (Value.int .i64) (Sort.ahead w n) blk off (zs.mergeSort fun x y => decide (x ≤ y)).toArray) os := Any.slices_Sort_int Sh_lays189 blk off cap zs w hH hblk hsz

open Go.RowKit Go.Sort in
theorem Sh_slices_Sort_int_none (p : Option Addr) (cap : Nat) (w : World) :
    Calls Tryd.prog 57 #[.slice p 0 cap] w fun e w' => e = .returned (.tuple #[]) ∧ w' = w := Any.slices_Sort_int_none Sh_lays189 p cap w

theorem sortOwn (a : Option Addr) (cap : Nat) (xs : List Int) (B : Nat) (w : World) (hl : xs.length ≤ 1048576) (ho : OwnI w B (.slice a xs.length cap) xs) :
    Calls Tryd.prog 57 #[.slice a xs.length cap] w fun e w' => e = .returned (.tuple #[]) ∧ OwnI w' B (.slice a (srt xs).length cap) (srt xs) ∧ w.grownBy w' (Value.slice a xs.length cap).ownBlock := by
  rcases ho.2 with ⟨e0, h0⟩ | ⟨g, cap', cur, e0, hbase, hb, h1, h2, h3, h4⟩
  · have hx : xs = [] := List.length_eq_zero_iff.1 h0
    subst hx
    refine (Sh_slices_Sort_int_none a cap w).mono ?_
    rintro e w' ⟨rfl, rfl⟩
    exact ⟨rfl, by rw [show srt [] = [] from by simp [srt]]; exact ho, World.grownBy.refl _ _⟩
  · simp only [Value.slice.injEq] at e0
    obtain ⟨rfl, -, rfl⟩ := e0
    have hh := Go.holds_of_blockI (ss := xs) hb (by simpa using h4)
    refine (Sh_slices_Sort_int g 0 cap xs w hh ((Array.getElem?_eq_some_iff.1 hb).1) (by omega)).mono ?_
    rintro e w' ⟨rfl, nn, os, rfl⟩
    refine ⟨rfl, ?_, Go.grownBy_sortedI _⟩
    have := Go.ownsRow_sortedI (n := nn) (os := os) (ss := xs) (ts := srt xs) (srt_len xs) hbase hb h1 h2 h3
    unfold OwnI
    rw [srt_len]
    exact this

theorem iStairOf_any (n : Int) (a : Option Addr) (xs : List Int) (cap : Nat) (w : World) (hn : -9223372036854775808 ≤ n ∧ n ≤ 9223372036854775807) (hx : Rd w a xs) (hT : TabOk w) :
    Calls Tryd.prog 26 #[.agg #[.int .i64 n, .slice a xs.length cap]] w fun e w' => ∃ a' cap', e = .returned (.tuple #[.slice a' (stoL n xs).length cap', .bool (semB n xs)]) ∧ OwnI w' w.heap.size (.slice a' (stoL n xs).length cap') (stoL n xs) ∧ Below w.heap.size w w' := by
  have hx1 := hx.alloc (.cells #[.int .i64 n, .slice a xs.length cap] 28)
  have hT1 : TabOk (w.alloc (.cells #[.int .i64 n, .slice a xs.length cap] 28)) := hT.below ((Below.refl _ _).alloc (Nat.le_refl _) _)
  cases hs : semB n xs
  · have H1 : Hid (stoL n xs = []) := by simp [Hid, stoL, hs]
    have HS := Lib.hid hs
    clear hs
    go_enter Tryd.func26, Tryd.ntmps26
    go_wp2_with fail
    refine (iSemi_any _ _ _ _ _ hn hx1 hT1).mono ?_
    rw [HS.out]
    rintro e w1 ⟨rfl, hb1⟩
    have bw1 : Below w.heap.size w w1 := Below.trans (by repeat (first | exact Below.refl _ _ | assumption | refine Below.alloc ?_ (by first | exact Nat.le_refl _ | (simp only [World.size_alloc, World.size_setCell, World.size_drew]; omega) | omega) _ | refine Below.setCell ?_ (by first | exact Nat.le_refl _ | (simp only [World.size_alloc, World.size_setCell, World.size_drew]; omega) | omega) _ | refine Below.drew ?_)) (hb1.mono (by first | (simp only [World.size_alloc, World.size_setCell, World.size_drew]; omega) | omega))
    go_wp2_with fail
    refine bodyPost_ret (v := .tuple #[.slice none 0 0, .bool false]) (by simp [results, Tryd.results26, go_sem]) rfl ?_
    exact ⟨none, 0, by rw [H1.out]; rfl, by rw [H1.out]; exact OwnI.nil _ _, bw1⟩
  · have hp := ord_rel (sem_ord hs)
    have h10 : xs.length ≤ 10 := by have := hp.len; have := hp.n1; omega
    obtain rfl : n = (xs.length : Int) := hp.len.symm
    have H1 : Hid (stoL (xs.length : Int) xs = srt (cnts xs xs.length)) := by simp [Hid, stoL, hs]
    have HS := Lib.hid hs
    have HM0 := Lib.hid (mixC_0 xs)
    have HME := Lib.hid (mixC_end xs)
    clear hs
    go_enter Tryd.func26, Tryd.ntmps26
    go_wp2_with fail
    refine (iSemi_any _ _ _ _ _ hn hx1 hT1).mono ?_
    rw [HS.out]
    rintro e w1 ⟨rfl, hb1⟩
    have A1 : Box2 w1 w.heap.size (.int .i64 (xs.length : Int)) (.slice a xs.length cap) := (Box2.new w _ _ _).below hb1
    have bw1 : Below w.heap.size w w1 := Below.trans (by repeat (first | exact Below.refl _ _ | assumption | refine Below.alloc ?_ (by first | exact Nat.le_refl _ | (simp only [World.size_alloc, World.size_setCell, World.size_drew]; omega) | omega) _ | refine Below.setCell ?_ (by first | exact Nat.le_refl _ | (simp only [World.size_alloc, World.size_setCell, World.size_drew]; omega) | omega) _ | refine Below.drew ?_)) (hb1.mono (by first | (simp only [World.size_alloc, World.size_setCell, World.size_drew]; omega) | omega))
    have ⟨zA, cA, dA⟩ := A1
    clear hb1
    go_wp2_with fail
    refine (belowSets_any _ _ _ _ _ (hx.below bw1) hp).mono ?_
    rintro e w2 ⟨a2, c2, rfl, ho2, hb2⟩
    have bw2 := bw1.trans (hb2.mono bw1.size)
    have z1 := bw1.size
    rw [← HM0.out] at ho2
    clear hb2 zA cA dA A1
    go_wp2_with fail
    go_loopw [20] (fun i' wr => ∃ k : Nat, k ≤ xs.length ∧ i' = .int .i64 k ∧ OwnI wr w1.heap.size (.slice a2 xs.length c2) (mixC xs k) ∧ Below w.heap.size w wr) (fun i' _ => xs.length - (intOf i').toNat)
    case atStart => exact ⟨0, Nat.zero_le _, rfl, ho2, bw2⟩
    case round =>
      obtain ⟨k, hk, rfl, hown, hb⟩ := hrel
      by_cases hlt : k < xs.length
      · have hml := mixC_len xs k
        obtain ⟨g, rfl, hgB, hgs⟩ := hown.head (by rw [hml]; omega)
        have ⟨ck, fk⟩ := hown.at' hml.symm (i := k) (by rw [hml]; exact hlt)
        rw [mixC_at hlt] at ck
        have hput := hown.put hml.symm k (cntB xs k)
        rw [mixC_set hlt] at hput
        have hbs := belowTo_small xs (k : Int) (k := xs.length) h10
        have HP := Lib.hid hput.1
        have HC : Hid (((elems (belowTo xs (k : Int) xs.length)).length : Int) = cntB xs k) := rfl
        have k0 : (0 : Int) ≤ (k : Int) := by omega
        have k1 : (k : Int) < (xs.length : Int) := by omega
        have bset := hb.setCell (p := ⟨g, k, none⟩) (show w.heap.size ≤ g by omega) (.int .i64 (cntB xs k))
        clear hput hml hown
        go_wp2_with fail
        refine (countElements_any _ _ hbs).mono ?_
        rintro e w' ⟨rfl, rfl⟩
        rw [HC.out]
        go_wp2_with fail
        go_roundw
        case rel => exact ⟨k + 1, by omega, by go_num, HP.out, bset⟩
        case measure => simp [intOf]; omega
      · obtain rfl : k = xs.length := by omega
        rw [HME.out] at hown
        have hcl := cnts_len xs xs.length
        have hsort := sortOwn a2 c2 (cnts xs xs.length) w1.heap.size wr (by rw [hcl]; omega) (by rw [hcl]; exact hown)
        rw [hcl] at hsort
        have HSO := Lib.hid hsort
        have hU := hown.lt
        have hsl : (srt (cnts xs xs.length)).length = xs.length := by rw [srt_len, hcl]
        have HSL := Lib.hid hsl
        clear hsort hcl hown hsl
        go_wp2_with fail
        refine HSO.out.mono ?_
        rintro e w3 ⟨rfl, ho3, hg3⟩
        have bw3 := hb.trans (below_of_grown hg3 (fun b e => by have := hU b e; omega) hb.size)
        rw [HSL.out] at ho3
        clear hg3 hU
        go_wp2_with fail
        refine bodyPost_ret (v := .tuple #[.slice a2 xs.length c2, .bool true]) (by simp [results, Tryd.results26, go_sem]) rfl ?_
        exact ⟨a2, c2, by rw [H1.out, HSL.out], by rw [H1.out, HSL.out]; exact ho3.mono z1, bw3⟩

theorem iMirrorSt_any (a : Option Addr) (xs : List Int) (cap : Nat) (w : World) (hx : Rd w a xs) (hT : TabOk w) :
    Calls Tryd.prog 29 #[.slice a xs.length cap] w fun e w' => ∃ a' cap', e = .returned (.tuple #[.slice a' (msL xs).length cap', .bool (stB xs)]) ∧ OwnI w' w.heap.size (.slice a' (msL xs).length cap') (msL xs) ∧ Below w.heap.size w w' := by
  cases hg : stB xs
  · have H1 : Hid (ostN xs = 0) := by simp [Hid, ostN, hg]
    have H2 : Hid (ostL xs = []) := by simp [Hid, ostL, hg]
    have H3 : Hid (msL xs = []) := by simp [Hid, msL, hg]
    have HG := Lib.hid hg
    clear hg
    go_enter Tryd.func29, Tryd.ntmps29
    go_wp2_with fail
    refine (iOrderOfSt_any _ _ _ _ hx).mono ?_
    rw [HG.out, H1.out, H2.out]
    rintro e w1 ⟨p1, q1, rfl, ho1, hb1⟩
    clear ho1
    go_wp2_with fail
    refine bodyPost_ret (v := .tuple #[.slice none 0 0, .bool false]) (by simp [results, Tryd.results29, go_sem]) rfl ?_
    exact ⟨none, 0, by rw [H3.out]; rfl, by rw [H3.out]; exact OwnI.nil _ _, hb1.alloc hb1.size _⟩
  · have h10 := (stB_iff.1 hg).1
    have H1 : Hid (ostN xs = (xs.length : Int)) := by simp [Hid, ostN, hg]
    have H2 : Hid (ostL xs = stO xs) := by simp [Hid, ostL, hg, stO]
    have H3 : Hid (msL xs = srt (cnts (mst xs) xs.length)) := by simp [Hid, msL, hg]
    have H4 : Hid (mirN (xs.length : Int) (stO xs) = (xs.length : Int)) := by rw [Hid, mirN, if_pos (stO_rel hg)]
    have H5 : Hid (mirL (xs.length : Int) (stO xs) = mst xs) := by rw [Hid, mirL, if_pos (stO_rel hg), stO_len, mst]
    have H6 := Lib.hid (stO_rel hg)
    have H7 := Lib.hid (mst_sem hg)
    have H8 := Lib.hid (mst_sto hg)
    have HSL : Hid ((srt (cnts (mst xs) xs.length)).length = xs.length) := by rw [Hid, srt_len, cnts_len]
    have HG := Lib.hid hg
    clear hg
    go_enter Tryd.func29, Tryd.ntmps29
    go_wp2_with fail
    refine (iOrderOfSt_any _ _ _ _ hx).mono ?_
    rw [HG.out, H1.out, H2.out]
    unfold GotO
    rw [stO_len]
    rintro e w1 ⟨p1, q1, rfl, ho1, hb1⟩
    have hr1 : Rd w1 p1 (stO xs) := ho1.rd
    have hT1 := hT.below hb1
    clear ho1
    go_wp2_with fail
    have hc := iMirrorOf_any (xs.length : Int) p1 (stO xs) q1 (w1.alloc (.cells #[.int .i64 (xs.length : Int), .slice p1 xs.length q1] 28)) (by omega) (hr1.alloc _)
    rw [H4.out, H5.out, H6.out, stO_len] at hc
    unfold GotO at hc
    rw [mst_len] at hc
    refine hc.mono ?_
    rintro e w2 ⟨p2, q2, rfl, ho2, hb2⟩
    clear hc
    have ht2 : Below w1.heap.size w1 w2 := Below.trans (by repeat (first | exact Below.refl _ _ | assumption | refine Below.alloc ?_ (by first | exact Nat.le_refl _ | (simp only [World.size_alloc, World.size_setCell, World.size_drew]; omega) | omega) _ | refine Below.setCell ?_ (by first | exact Nat.le_refl _ | (simp only [World.size_alloc, World.size_setCell, World.size_drew]; omega) | omega) _ | refine Below.drew ?_)) (hb2.mono (by first | (simp only [World.size_alloc, World.size_setCell, World.size_drew]; omega) | omega))
    have bw2 := hb1.trans (ht2.mono hb1.size)
    have hr2 : Rd w2 p2 (mst xs) := ho2.rd
    have hT2 := hT1.below ht2
    clear ho2 hb2
    go_wp2_with fail
    have hc := iStairOf_any (xs.length : Int) p2 (mst xs) q2 (w2.alloc (.cells #[.int .i64 (xs.length : Int), .slice p2 xs.length q2] 28)) (by omega) (hr2.alloc _) (hT2.below ((Below.refl _ _).alloc (Nat.le_refl _) _))
    rw [H7.out, H8.out, HSL.out, mst_len] at hc
    refine hc.mono ?_
    rintro e w3 ⟨p3, q3, rfl, ho3, hb3⟩
    clear hc
    have ht3 : Below w2.heap.size w2 w3 := Below.trans (by repeat (first | exact Below.refl _ _ | assumption | refine Below.alloc ?_ (by first | exact Nat.le_refl _ | (simp only [World.size_alloc, World.size_setCell, World.size_drew]; omega) | omega) _ | refine Below.setCell ?_ (by first | exact Nat.le_refl _ | (simp only [World.size_alloc, World.size_setCell, World.size_drew]; omega) | omega) _ | refine Below.drew ?_)) (hb3.mono (by first | (simp only [World.size_alloc, World.size_setCell, World.size_drew]; omega) | omega))
    have z2 := bw2.size
    go_wp2_with fail
    refine bodyPost_ret (v := .tuple #[.slice p3 xs.length q3, .bool true]) (by simp [results, Tryd.results29, go_sem]) rfl ?_
    exact ⟨p3, q3, by rw [H3.out, HSL.out], by rw [H3.out, HSL.out]; exact ho3.mono (by simp; omega), bw2.trans (ht3.mono bw2.size)⟩

/-- the marks k, k + 1, .. -/
def marks (k : Int) (n : Nat) : List Int := (List.range n).map (fun (j : Nat) => k + (j : Int))
theorem marks_len (k : Int) (n : Nat) : (marks k n).length = n := by simp [marks]
theorem marks_nth {k : Int} {n j : Nat} (h : j < n) : nth (marks k n) j = k + j := by
  simp [nth, marks, h]
theorem mark_step (k : Int) (xs : List Int) (j : Nat) (h : j < xs.length) :
    ((marks k j ++ xs.drop j).map (Value.int .i64)).set j (.int .i64 (k + j)) = (marks k (j+1) ++ xs.drop (j+1)).map (Value.int .i64) := by
  apply List.ext_getElem?
  intro i
  rw [List.getElem?_set]
  by_cases hj : j = i
  · subst hj
    rw [if_pos rfl, if_pos (by simp [marks_len]; omega), List.getElem?_map, List.getElem?_append_left (by rw [marks_len]; omega)]
    simp [marks]
  · simp only [hj, if_false, List.getElem?_map, List.getElem?_append, marks_len, List.getElem?_drop]
    by_cases h1 : i < j
    · have h2 : i < j + 1 := by omega
      simp [h1, h2, marks]
    · have h2 : ¬ i < j + 1 := by omega
      have h3 : j + (i - j) = j + 1 + (i - (j + 1)) := by omega
      simp [h1, h2, h3]
theorem own_ne {v u : Value} (h : ∀ c, v.ownBlock = some c → u.ownBlock ≠ some c) : v.ownBlock = none ∨ v.ownBlock ≠ u.ownBlock := by
  cases hv : v.ownBlock with
  | none => exact .inl rfl
  | some c => exact .inr (fun e => h c hv e.symm)

theorem markIntS_any (a : Option Addr) (xs : List Int) (cap : Nat) (k : Int) (B : Nat) (w : World) (h0 : 0 ≤ k) (h1 : k ≤ 1099511627776) (hn : xs.length ≤ 1048576) (ho : OwnI w B (.slice a xs.length cap) xs) :
    Calls Tryd.prog 19 #[.slice a xs.length cap, .int .i64 k] w fun e w' => e = .returned (.int .i64 (k + xs.length)) ∧ OwnI w' B (.slice a xs.length cap) (marks k xs.length) ∧ w.grownBy w' (Value.slice a xs.length cap).ownBlock := by
  go_enter Tryd.func19, Tryd.ntmps19
  go_wp2_with fail
  go_loopw [1, 5] (fun k' i wr => ∃ j : Nat, j ≤ xs.length ∧ i = .int .i64 j ∧ k' = .int .i64 (k + j) ∧ wr.ownsRow B 3 1 (.slice a xs.length cap) xs.length ((marks k j ++ xs.drop j).map (Value.int .i64)) ∧ w.grownBy wr (Value.slice a xs.length cap).ownBlock) (fun _ i _ => xs.length - (intOf i).toNat)
  case atStart => exact ⟨0, Nat.zero_le _, rfl, by simp, by (have e : marks k 0 ++ xs.drop 0 = xs := by simp [marks]); rw [e]; exact ho, World.grownBy.refl _ _⟩
  case round =>
    obtain ⟨j, hj, rfl, rfl, hown, hg⟩ := hrel
    by_cases hlt : j < xs.length
    · obtain ⟨g, rfl⟩ : ∃ g, a = some ⟨g, 0, none⟩ := by
        rcases hown.2 with ⟨e, h⟩ | ⟨g, c, cur, e, _⟩
        · omega
        · simp only [Value.slice.injEq] at e
          exact ⟨g, e.1⟩
      have hst := World.ownsRow.stored hown j (.int .i64 (k + j))
      rw [mark_step k xs j hlt] at hst
      have hcc := World.ownsRow.cellAt hown j (by omega)
      have hfr := World.ownsRow.frozenAt hown j
      have hcc' : ∃ u, wr.cell? ⟨g, j, none⟩ = some u := by
        rw [hcc]
        exact ⟨_, List.getElem?_eq_getElem (by simp [marks_len]; omega)⟩
      obtain ⟨u, hu⟩ := hcc'
      have Hst := Lib.hid hst
      have Hg := Lib.hid (grown_trans hg hst.2)
      clear hst hcc hown hg
      go_wp2
      go_roundw
      case rel => exact ⟨j + 1, by omega, by go_num, by go_num, Hst.out.1, Hg.out⟩
      case measure => simp [intOf]; omega
    · obtain rfl : j = xs.length := by omega
      go_wp2
      go_ret
      refine ⟨rfl, ?_, hg⟩
      have e : marks k xs.length ++ xs.drop xs.length = marks k xs.length := by simp
      rw [e] at hown
      show World.ownsRow _ _ _ _ _ _ _
      rw [marks_len]
      exact hown

theorem heldIntS_any (a : Option Addr) (n cap : Nat) (k : Int) (w : World) (h0 : 0 ≤ k) (h1 : k ≤ 1099511627776) (hn : n ≤ 1048576) (hx : Rd w a (marks k n)) :
    Calls Tryd.prog 20 #[.slice a n cap, .int .i64 k] w fun e w' => e = .returned (.int .i64 (k + n)) ∧ Below w.heap.size w w' := by
  go_enter Tryd.func20, Tryd.ntmps20
  go_wp2_with fail
  go_loop [1, 5] (fun k' i => ∃ j : Nat, j ≤ n ∧ i = .int .i64 j ∧ k' = .int .i64 (k + j)) (fun _ i => n - (intOf i).toNat)
  case atStart => exact ⟨0, Nat.zero_le _, rfl, by simp⟩
  case round =>
    obtain ⟨j, hj, rfl, rfl⟩ := hrel
    by_cases hlt : j < n
    · obtain ⟨b, off, rfl, hbl, hc⟩ := hx.cell j (by rw [marks_len]; exact hlt)
      rw [marks_nth hlt] at hc
      go_wp2_with fail
      go_round
      case rel => exact ⟨j + 1, by omega, by go_num, by go_num⟩
      case measure => simp [intOf]; omega
    · obtain rfl : j = n := by omega
      go_wp2_with fail
      go_ret
      exact ⟨rfl, (by repeat (first | exact Below.refl _ _ | assumption | refine Below.alloc ?_ (by first | exact Nat.le_refl _ | (simp only [World.size_alloc, World.size_setCell, World.size_drew]; omega) | omega) _ | refine Below.setCell ?_ (by first | exact Nat.le_refl _ | (simp only [World.size_alloc, World.size_setCell, World.size_drew]; omega) | omega) _ | refine Below.drew ?_))⟩

theorem walk (a0 : Option Addr) (xs0 : List Int) (cap0 : Nat) (w : World) (hx0 : Rd w a0 xs0) (hT : TabOk w) :
    Calls Tryd.prog 7 #[.slice a0 xs0.length cap0] w fun e w' => e = .returned (.bool true) ∧ Below w.heap.size w w' := by
  have hR0 : (msL xs0).length ≤ 1048576 := msL_len xs0
  by_cases hs0 : 1048576 < (xs0.length : Int)
  · go_enter Tryd.func7, Tryd.ntmps7
    go_wp2_with fail
    go_ret
    exact ⟨rfl, (by repeat (first | exact Below.refl _ _ | assumption | refine Below.alloc ?_ (by first | exact Nat.le_refl _ | (simp only [World.size_alloc, World.size_setCell, World.size_drew]; omega) | omega) _ | refine Below.setCell ?_ (by first | exact Nat.le_refl _ | (simp only [World.size_alloc, World.size_setCell, World.size_drew]; omega) | omega) _ | refine Below.drew ?_))⟩
  go_enter Tryd.func7, Tryd.ntmps7
  go_wp2_with fail
  refine (toIntS_any _ _ _ _ (hx0.below (Below.refl _ _)) (by omega)).mono ?_
  rintro e w1 ⟨pT0, qT0, rfl, ho, hb⟩
  have ht : Below w.heap.size w w1 := Below.trans (by repeat (first | exact Below.refl _ _ | assumption | refine Below.alloc ?_ (by first | exact Nat.le_refl _ | (simp only [World.size_alloc, World.size_setCell, World.size_drew]; omega) | omega) _ | refine Below.setCell ?_ (by first | exact Nat.le_refl _ | (simp only [World.size_alloc, World.size_setCell, World.size_drew]; omega) | omega) _ | refine Below.drew ?_)) (hb.mono (by first | (simp only [World.size_alloc, World.size_setCell, World.size_drew]; omega) | omega))
  have z1 : w.heap.size ≤ w1.heap.size := ht.size
  have bw1 : Below w.heap.size w w1 := ht
  have T0_1 := ho
  have UT0 := T0_1.cut (Nat.le_refl _)
  clear ho
  clear ht hb
  go_wp2_with fail
  refine (sMirrorSt_any _ _ _ _ (T0_1.rd)).mono ?_
  rintro e w2 ⟨pR0, qR0, rfl, ho0, hb⟩
  have ht : Below w1.heap.size w1 w2 := hb
  have z2 : w1.heap.size ≤ w2.heap.size := ht.size
  have bw2 : Below w.heap.size w w2 := bw1.trans (ht.mono bw1.size)
  have T0_2 := T0_1.below ht (Nat.le_refl _)
  clear T0_1
  have R0_2 := ho0
  have UR0 := R0_2.cut (Nat.le_refl _)
  clear ho0
  clear ht hb
  go_wp2_with fail
  clear T0_2 UT0
  refine (toIntS_any _ _ _ _ (hx0.below bw2) (by omega)).mono ?_
  rintro e w3 ⟨pX0, qX0, rfl, ho, hb⟩
  have ht : Below w2.heap.size w2 w3 := hb
  have z3 : w2.heap.size ≤ w3.heap.size := ht.size
  have bw3 : Below w.heap.size w w3 := bw2.trans (ht.mono bw2.size)
  have R0_3 := R0_2.below ht (Nat.le_refl _)
  clear R0_2
  have X0_3 := ho
  have UX0 := X0_3.cut (Nat.le_refl _)
  clear ho
  clear ht hb
  go_wp2_with fail
  refine (iMirrorSt_any _ _ _ _ (X0_3.rd) (hT.below bw3)).mono ?_
  rintro e w4 ⟨pG0, qG0, rfl, ho0, hb⟩
  have ht : Below w3.heap.size w3 w4 := hb
  have z4 : w3.heap.size ≤ w4.heap.size := ht.size
  have bw4 : Below w.heap.size w w4 := bw3.trans (ht.mono bw3.size)
  have R0_4 := R0_3.below ht (Nat.le_refl _)
  have X0_4 := X0_3.below ht (Nat.le_refl _)
  clear R0_3 X0_3
  have G0_4 := ho0
  have UG0 := G0_4.cut (Nat.le_refl _)
  clear ho0
  clear ht hb
  go_wp2_with fail
  refine (eqIntS_any _ _ (msL xs0) (msL xs0) _ _ _ (G0_4.rd) (R0_4.rd)).mono ?_
  rw [eqL_self]
  rintro e w5 ⟨rfl, hb⟩
  have ht : Below w4.heap.size w4 w5 := hb
  have z5 : w4.heap.size ≤ w5.heap.size := ht.size
  have bw5 : Below w.heap.size w w5 := bw4.trans (ht.mono bw4.size)
  have R0_5 := R0_4.below ht (Nat.le_refl _)
  have X0_5 := X0_4.below ht (Nat.le_refl _)
  have G0_5 := G0_4.below ht (Nat.le_refl _)
  clear R0_4 X0_4 G0_4
  clear ht hb
  go_wp2_with fail
  refine (toIntS_any _ _ _ _ (hx0.below bw5) (by omega)).mono ?_
  rintro e w6 ⟨pY0, qY0, rfl, ho, hb⟩
  have ht : Below w5.heap.size w5 w6 := hb
  have z6 : w5.heap.size ≤ w6.heap.size := ht.size
  have bw6 : Below w.heap.size w w6 := bw5.trans (ht.mono bw5.size)
  have R0_6 := R0_5.below ht (Nat.le_refl _)
  have X0_6 := X0_5.below ht (Nat.le_refl _)
  have G0_6 := G0_5.below ht (Nat.le_refl _)
  clear R0_5 X0_5 G0_5
  have Y0_6 := ho
  have UY0 := Y0_6.cut (Nat.le_refl _)
  clear ho
  clear ht hb
  go_wp2_with fail
  refine (eqIntS_any _ _ xs0 xs0 _ _ _ X0_6.rd Y0_6.rd).mono ?_
  rw [eqL_self]
  rintro e w7 ⟨rfl, hb⟩
  have ht : Below w6.heap.size w6 w7 := hb
  have z7 : w6.heap.size ≤ w7.heap.size := ht.size
  have bw7 : Below w.heap.size w w7 := bw6.trans (ht.mono bw6.size)
  have R0_7 := R0_6.below ht (Nat.le_refl _)
  have X0_7 := X0_6.below ht (Nat.le_refl _)
  have G0_7 := G0_6.below ht (Nat.le_refl _)
  have Y0_7 := Y0_6.below ht (Nat.le_refl _)
  clear R0_6 X0_6 G0_6 Y0_6
  clear ht hb
  go_wp2_with fail
  clear Y0_7 UY0
  refine (markIntS_any _ _ _ _ _ _ (by omega) (by omega) (by omega) X0_7).mono ?_
  rintro e w8 ⟨rfl, ho, hg⟩
  have z8 : w7.heap.size ≤ w8.heap.size := hg.size
  have bw8 : Below w.heap.size w w8 := bw7.trans (below_of_grown hg (fun b e => by have := UX0 b e; omega) (by omega))
  have R0_8 := R0_7.kept hg (own_ne (fun c e e2 => by have h1 := UR0 c e; have h2 := UX0 c e2; omega))
  have G0_8 := G0_7.kept hg (own_ne (fun c e e2 => by have h1 := UG0 c e; have h2 := UX0 c e2; omega))
  clear R0_7 X0_7 G0_7 hg
  have X0_8 := ho
  clear ho
  go_wp2_with fail
  refine (eqIntS_any _ _ (msL xs0) (msL xs0) _ _ _ (G0_8.rd) (R0_8.rd)).mono ?_
  rw [eqL_self]
  rintro e w9 ⟨rfl, hb⟩
  have ht : Below w8.heap.size w8 w9 := hb
  have z9 : w8.heap.size ≤ w9.heap.size := ht.size
  have bw9 : Below w.heap.size w w9 := bw8.trans (ht.mono bw8.size)
  have R0_9 := R0_8.below ht (Nat.le_refl _)
  have X0_9 := X0_8.below ht (Nat.le_refl _)
  have G0_9 := G0_8.below ht (Nat.le_refl _)
  clear R0_8 X0_8 G0_8
  clear ht hb
  go_wp2_with fail
  refine (markIntS_any _ _ _ _ _ _ (by omega) (by omega) hR0 G0_9).mono ?_
  rintro e w10 ⟨rfl, ho, hg⟩
  have z10 : w9.heap.size ≤ w10.heap.size := hg.size
  have bw10 : Below w.heap.size w w10 := bw9.trans (below_of_grown hg (fun b e => by have := UG0 b e; omega) (by omega))
  have R0_10 := R0_9.kept hg (own_ne (fun c e e2 => by have h1 := UR0 c e; have h2 := UG0 c e2; omega))
  have X0_10 := X0_9.kept hg (own_ne (fun c e e2 => by have h1 := UX0 c e; have h2 := UG0 c e2; omega))
  clear R0_9 X0_9 G0_9 hg
  have G0_10 := ho
  clear ho
  go_wp2_with fail
  refine (heldIntS_any _ _ _ _ _ (by omega) (by omega) hR0 G0_10.rd).mono ?_
  rintro e w11 ⟨rfl, hb⟩
  have ht : Below w10.heap.size w10 w11 := hb
  have z11 : w10.heap.size ≤ w11.heap.size := ht.size
  have bw11 : Below w.heap.size w w11 := bw10.trans (ht.mono bw10.size)
  have R0_11 := R0_10.below ht (Nat.le_refl _)
  have X0_11 := X0_10.below ht (Nat.le_refl _)
  have G0_11 := G0_10.below ht (Nat.le_refl _)
  clear R0_10 X0_10 G0_10
  clear ht hb
  go_wp2_with fail
  clear X0_11 UX0
  refine (toIntS_any _ _ _ _ (hx0.below bw11) (by omega)).mono ?_
  rintro e w12 ⟨pV0, qV0, rfl, ho, hb⟩
  have ht : Below w11.heap.size w11 w12 := hb
  have z12 : w11.heap.size ≤ w12.heap.size := ht.size
  have bw12 : Below w.heap.size w w12 := bw11.trans (ht.mono bw11.size)
  have R0_12 := R0_11.below ht (Nat.le_refl _)
  have G0_12 := G0_11.below ht (Nat.le_refl _)
  clear R0_11 G0_11
  have V0_12 := ho
  have UV0 := V0_12.cut (Nat.le_refl _)
  clear ho
  clear ht hb
  go_wp2_with fail
  refine (iMirrorSt_any _ _ _ _ (V0_12.rd) (hT.below bw12)).mono ?_
  rintro e w13 ⟨pH0, qH0, rfl, ho0, hb⟩
  have ht : Below w12.heap.size w12 w13 := hb
  have z13 : w12.heap.size ≤ w13.heap.size := ht.size
  have bw13 : Below w.heap.size w w13 := bw12.trans (ht.mono bw12.size)
  have R0_13 := R0_12.below ht (Nat.le_refl _)
  have G0_13 := G0_12.below ht (Nat.le_refl _)
  have V0_13 := V0_12.below ht (Nat.le_refl _)
  clear R0_12 G0_12 V0_12
  have H0_13 := ho0
  have UH0 := H0_13.cut (Nat.le_refl _)
  clear ho0
  clear ht hb
  go_wp2_with fail
  clear V0_13 UV0
  refine (eqIntS_any _ _ (msL xs0) (msL xs0) _ _ _ (H0_13.rd) (R0_13.rd)).mono ?_
  rw [eqL_self]
  rintro e w14 ⟨rfl, hb⟩
  have ht : Below w13.heap.size w13 w14 := hb
  have z14 : w13.heap.size ≤ w14.heap.size := ht.size
  have bw14 : Below w.heap.size w w14 := bw13.trans (ht.mono bw13.size)
  have R0_14 := R0_13.below ht (Nat.le_refl _)
  have G0_14 := G0_13.below ht (Nat.le_refl _)
  have H0_14 := H0_13.below ht (Nat.le_refl _)
  clear R0_13 G0_13 H0_13
  clear ht hb
  go_wp2_with fail
  refine (heldIntS_any _ _ _ _ _ (by omega) (by omega) hR0 G0_14.rd).mono ?_
  rintro e w15 ⟨rfl, hb⟩
  have ht : Below w14.heap.size w14 w15 := hb
  have z15 : w14.heap.size ≤ w15.heap.size := ht.size
  have bw15 : Below w.heap.size w w15 := bw14.trans (ht.mono bw14.size)
  have R0_15 := R0_14.below ht (Nat.le_refl _)
  have G0_15 := G0_14.below ht (Nat.le_refl _)
  have H0_15 := H0_14.below ht (Nat.le_refl _)
  clear R0_14 G0_14 H0_14
  clear ht hb
  go_wp2_with fail
  go_ret
  exact ⟨rfl, bw15⟩

theorem rd_of_trod {H : Type} {enc : TypeId × Value → H} {W : World} {fuel : Nat} {c : Value} {y : DataW H × List MemPlace}
    (h : DataW.trod enc Tryd.prog W 0 (fun _ => true) true fuel 22 [c] = some y) : ∃ (a : Option Addr) (xs : List Int) (cap : Nat), c = .slice a xs.length cap ∧ Rd W a xs ∧ ∀ k, k < xs.length → (Lit.int .i64 (nth xs k)).wf = true := by
  rcases Go.ChangeShapes.open_ints Tryd.underlying22 Tryd.underlying3 (by kernel_rfl) h with ⟨hcs, _⟩ | ⟨x, len, cap, zs, hcs, _, hl, hm, hz, _, hcell, hwf⟩
  · simp only [List.cons.injEq, and_true] at hcs
    exact ⟨none, [], 0, hcs, ⟨by simp, fun k hk => by simp at hk⟩, fun k hk => by simp at hk⟩
  · simp only [List.cons.injEq, and_true] at hcs
    simp only [if_true] at hz
    have hlen : (zs.take len).length = len := by rw [List.length_take]; omega
    have hn : ∀ k, k < len → nth (zs.take len) k = zs.getD k 0 := by
      intro k hk
      simp only [nth, List.getD_eq_getElem?_getD, List.getElem?_take, hk, if_true]
    refine ⟨some x, zs.take len, cap, by rw [hlen]; exact hcs, ⟨by rw [hlen]; unfold maxLen at hm; omega, fun k hk => ?_⟩, fun k hk => ?_⟩
    · rw [hlen] at hk
      obtain ⟨b, off, sp⟩ := x
      have h0 := hcell 0 (by omega)
      have hsp : sp = none := by simpa [Addr.add] using World.cell?_spot h0
      subst hsp
      have hk' := hcell k (by omega)
      rw [Addr.add_lit] at hk'
      exact ⟨b, off, rfl, World.block_lt_of_cell? _ _ h0, by rw [hk', hn k hk]⟩
    · rw [hlen] at hk
      rw [hn k hk]
      have hk2 : k < zs.length := by omega
      exact hwf _ (by rw [List.getD_eq_getElem?_getD, List.getElem?_eq_getElem hk2]; exact List.getElem_mem hk2)

theorem own : ownKnob Tryd.prog.godebug = none := by kernel_rfl
theorem laidOut : laidOutB Tryd.prog = true := by kernel_rfl
theorem wf_bd {n : Int} (h : (Lit.int .i64 n).wf = true) : -9223372036854775808 ≤ n ∧ n ≤ 9223372036854775807 := by
  simp [Lit.wf, IntKind.min, IntKind.max, IntKind.bits, IntKind.signed] at h
  omega



open Go.ChangeShapes Go.WideShapes Go.ChangeAt Go.RowKit in
set_option maxRecDepth 100000 in
theorem lifted (os : Os) (started : os.Started) (H : Type) (enc : TypeId × Value → H) :
    ReturnsInHanded {} Tryd.checked os 7 .any (fun w args => (Rows.fnExactMirrorStairSpec.pre enc Tryd.prog Tryd.f7 [] false w args ∧ laidMetH Tryd.prog ldT w) ∧ sizedMet enc Tryd.prog Tryd.f7 (OpenSpec.ofChange Rows.fnExactMirrorStairSpec) false w args) (Rows.fnExactMirrorStairSpec.post enc Tryd.prog Tryd.f7 false true false false) := by
  refine returnsInHanded_of_change_and (C := Tryd.checked) (X := fun w _ => laidMetH Tryd.prog ldT w) (fun _ _ _ hh h => h.of_heap hh) own started (by kernel_rfl) Tryd.func7
    (ChangeSpec.witness_shaped (enc := enc) (C := Tryd.checked) (os := os) (X := fun w _ => laidMetH Tryd.prog ldT w) false (World.doorLaid Tryd.prog 400 os) #[.slice none 0 0] 8 rfl (World.shaped_of_RefB (by kernel_rfl) (by kernel_rfl)) (by kernel_rfl) (by kernel_rfl) (by kernel_rfl) (door_met os _)) ?_
  intro W base args ds gs before hval0 hW _ _ hL _
  have hval : ∀ (j : Nat) t v, Tryd.f7.params[j]? = some t → args[j]? = some v → Value.okWide Tryd.prog W .any base t v := hval0
  have hW' := hW
  obtain ⟨p, q, hA0, hV, rfl, hfz, hnd⟩ := hW
  have hA : DataW.TrodAll enc Tryd.prog W 0 (fun _ => true) true Tryd.f7.params.toList args.toList ds p := hA0
  rw [Tryd.params7] at hA hval
  obtain ⟨v0, vs0, d0, ds0, p0, q0, hargs, rfl, rfl, h0, r0⟩ := trodAll_cons hA
  obtain ⟨rfl, rfl, rfl⟩ := trodAll_nil r0
  obtain rfl : args = #[v0] := by cases args; simp_all
  obtain ⟨rfl, rfl⟩ := trodVars_none hV
  have lt0 : ∀ x ∈ p0, x.block < W.heap.size := by obtain ⟨m, hm⟩ := h0; exact DataW.trod_lt m _ _ _ hm
  obtain ⟨a0, len0, cap0, rfl⟩ := okWide_slice Tryd.underlying22 (hval 0 22 v0 rfl rfl)
  obtain ⟨a0, xs0, cap0, e0, rd0, wl0⟩ := (by obtain ⟨fu, hf⟩ := h0; simp only [Value.cells] at hf; exact rd_of_trod hf : ∃ (a : Option Addr) (xs : List Int) (cap : Nat), Value.slice a0 len0 cap0 = .slice a xs.length cap ∧ Rd W a xs ∧ ∀ k, k < xs.length → (Lit.int .i64 (nth xs k)).wf = true)
  simp only [Value.slice.injEq] at e0
  obtain ⟨rfl, rfl, rfl⟩ := e0
  clear hA0 hval0
  refine (walk a0 xs0 cap0 W rd0 (of_laid hL)).mono fun e W' ⟨he, bel⟩ => ?_
  subst he
  exact ⟨_, rfl, _, _, _, [], _, [], hW', trodAll_mk1 (shut_bool Tryd.underlying4 _), (trodAll_cons_mk (Below.trod laidOut (by kernel_rfl) (of_decide_eq_true (by kernel_rfl)) h0 bel lt0) trodAll_mk0), rfl, bel.frame _, fun h => by cases h⟩
theorem row_holds : Rows.FnExactMirrorStairSaid :=
  OpenClaim.holds_of_wide 7 Tryd.f7 rfl rfl rfl rfl rfl rfl rfl ⟨rfl, rfl, rfl, rfl, rfl⟩ rfl rfl rfl rfl rfl (by kernel_rfl) Tryd.func7 (by kernel_rfl)
    (of_decide_eq_true (by kernel_rfl)) (by unfold Func.isWrapper; first | (rw [if_pos (by decide +kernel)]; kernel_rfl) | (rw [if_neg (by decide +kernel)]; exact ⟨rfl, rfl⟩))
    (fun os started H enc _ => lifted os started H enc)
theorem proved : Rows.FnExactMirrorStairCardSaid :=
  Claim7.holds_tied_plain_at .later [] [.data, .data] true (true, _) false
    row_holds (fun _ h => by cases h) (by kernel_rfl) (fun _ h => by cases h) fnExactMirrorStair_row_tie rfl ⟨rfl, rfl⟩ (by kernel_rfl) rfl
    (fun f fn hf hfn => by
      obtain rfl : f = 7 := Option.some.inj ((show Tryd.prog.funcNamed "loop.example/g01106/laws.FnExactMirrorStair" = some 7 by kernel_rfl).symm.trans hf) |>.symm
      obtain rfl : fn = Tryd.f7 := (Option.some.inj (Tryd.func7.symm.trans hfn)).symm
      exact ⟨by kernel_rfl, fun j t ht => by
        rw [Tryd.params7] at ht
        have hm : t ∈ [22] := by simpa using Array.mem_of_getElem? ht
        have hall : ([22].all fun u => !Tryd.prog.wantsStandIn u) = true := by kernel_rfl
        exact (show Tryd.prog.wantsStandIn t = false by simpa using List.all_eq_true.1 hall t hm)⟩)
    (by kernel_rfl)

end Go.Proofs.YtnbgpelnihchoaaDoor.mirrorStair
