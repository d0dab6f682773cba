/- PROVED: the law FnMirroredEnds returns true for every input, and each of its arguments reads afterwards as before. No conditions. -/
import Derived.Test.YtjddjfckflgojaaRows
import Derived.WalkKit
import Derived.WalkSpells
import Derived.WalkLawsBesides
import Derived.Deep.QuietTactic
import Derived.BigQuiet
import Derived.ProofKit
import Derived.OpenShut
import Derived.ShutString
import Derived.ChangeOld
import Derived.Below
import Derived.Lib.SmallJoins
import Derived.Lib.Hide
import Derived.Maps.AppendAt
import Derived.Deep.AppendLies
import Derived.Deep.RegionHeld3
import Derived.Deep.DeepCutAuto
import Derived.StillTail
import Derived.Shelf.Small.Bits
import Derived.Shelf.Small.Wraps
import Derived.Shelf.Strconv.Itoa0
import Derived.Shelf.Sort.Plain
import Derived.Shelf.Slices.Equal
import Derived.Shelf.Slices.CompactI
import Derived.Shelf.Slices.SearchI
import Derived.Shelf.Slices.Cells
import Derived.Shelf.Slices.In.SortNone
import Derived.Shelf.Slices.Empties2
import Derived.Sort.OwnSortedInts
import Derived.Lib.SlicesCompact
import Derived.Lib.RowBridge
import Derived.Test.YtjddjfckflgojaaMirroredEndsP2
namespace Go.Proofs.Ytjddjfckflgojaa.mirroredEnds
open Go Go.RowKit
set_option linter.unusedVariables false
set_option linter.unusedSimpArgs false
set_option maxHeartbeats 400000
open Go.Shelf
theorem elem_at {n : Int} {xs : List Int} (hp : RelP n xs) {k : Nat} (hk : k < xs.length) {m : Nat} (hm : m < (elems (nth xs k).toNat).length) :
    ∃ i : Nat, i < xs.length ∧ hasB (nth xs k) i = true ∧ nth (elems (nth xs k).toNat) m = (i : Int) := by
  have h1 := hp.small k hk
  have h0 := hp.pos k hk
  obtain ⟨i, hb, e⟩ := (mem_elems (by omega)).1 (nth_mem hm)
  exact ⟨i, has_lt hp hk hb, hb, e⟩
theorem at_elem {n : Int} {xs : List Int} (hp : RelP n xs) {k : Nat} (hk : k < xs.length) {j : Nat} (h : hasB (nth xs k) j = true) :
    ∃ m, m < (elems (nth xs k).toNat).length ∧ nth (elems (nth xs k).toNat) m = (j : Int) := by
  have h1 := hp.small k hk
  have h0 := hp.pos k hk
  have : (j : Int) ∈ elems (nth xs k).toNat := (mem_elems (by omega)).2 ⟨j, h, rfl⟩
  obtain ⟨m, hm, e⟩ := mem_nth this
  exact ⟨m, hm, e⟩
theorem orGood_any (n : Int) (a : Option Addr) (xs : List Int) (cap : Nat) (w : World) (hx : Rd w a xs) :
    Calls Try.prog 70 #[.agg #[.int .i64 n, .slice a xs.length cap]] w fun e w' => e = .returned (.bool (ordB n xs)) ∧ Below w.heap.size w w' := by
  have hx1 := hx.alloc (.cells #[.int .i64 n, .slice a xs.length cap] 26)
  have hlen := hx.len
  cases hr : relB n xs
  · have HR : Hid (ordB n xs = false) := by simp [Hid, ordB, hr]
    go_enter Try.func70, Try.ntmps70
    go_wp2_with fail
    refine (orRelation_any _ _ _ _ _ hx1).mono ?_
    rintro e w1 ⟨rfl, hb1⟩
    go_wp2_with fail
    go_ret
    exact ⟨ret_bool HR.out.symm, Below.trans (by repeat (first | exact Below.refl _ _ | assumption | refine Below.alloc ?_ (by first | exact Nat.le_refl _ | (simp only [World.size_alloc, World.size_setCell, World.size_drew]; omega) | omega) _ | refine Below.setCell ?_ (by first | exact Nat.le_refl _ | (simp only [World.size_alloc, World.size_setCell, World.size_drew]; omega) | omega) _ | refine Below.drew ?_)) (hb1.mono (by first | (simp only [World.size_alloc, World.size_setCell, World.size_drew]; omega) | omega))⟩
  · have hp := relB_p hr
    go_enter Try.func70, Try.ntmps70
    go_wp2_with fail
    refine (orRelation_any _ _ _ _ _ hx1).mono ?_
    rintro e w1 ⟨rfl, hb1⟩
    have B1 := (Box2.new w _ _ _).below hb1
    have ⟨z1, c1, d1⟩ := B1
    have bw1 : Below w.heap.size w w1 := Below.trans (by repeat (first | exact Below.refl _ _ | assumption | refine Below.alloc ?_ (by first | exact Nat.le_refl _ | (simp only [World.size_alloc, World.size_setCell, World.size_drew]; omega) | omega) _ | refine Below.setCell ?_ (by first | exact Nat.le_refl _ | (simp only [World.size_alloc, World.size_setCell, World.size_drew]; omega) | omega) _ | refine Below.drew ?_)) (hb1.mono (by first | (simp only [World.size_alloc, World.size_setCell, World.size_drew]; omega) | omega))
    have HR := Lib.hid hr
    clear hb1
    go_wp2_with fail
    clear hr
    go_loopw [13] (fun i wr => ∃ k : Nat, k ≤ xs.length ∧ i = .int .i64 k ∧ (∀ j, j < k → okAtB xs j = true) ∧ Below w1.heap.size w1 wr) (fun i _ => xs.length - (intOf i).toNat)
    case atStart => exact ⟨0, Nat.zero_le _, rfl, fun j hj => by omega, Below.refl _ _⟩
    case round =>
      obtain ⟨k, hk, rfl, hall, hb⟩ := hrel
      have Br := B1.below hb
      have ⟨zr, cr, dr⟩ := Br
      have bwr := bw1.trans (hb.mono bw1.size)
      have HA := Lib.hid hall
      clear hall c1 d1
      by_cases hlt : k < xs.length
      · obtain ⟨b, off, rfl, hbl, hc⟩ := (hx.below bwr).cell k hlt
        have hpk := hp.pos k hlt
        have hsk := hp.small k hlt
        have hsk' : nth xs k ≤ 9223372036854775807 := by omega
        cases hin : hasB (nth xs k) k
        · go_wp2_with fail
          refine (orHas_any _ _ _ hpk hsk' (by omega)).mono ?_
          rintro e w' ⟨rfl, rfl⟩
          go_wp2_with fail
          refine (orList_any _ _ hpk hsk).mono ?_
          rintro e w2 ⟨a2, cap2, rfl, ho2, hb2⟩
          have ⟨z2, c2, d2⟩ := Br.below hb2
          have bw2 := bwr.trans (hb2.mono bwr.size)
          have hx2 := hx.below bw2
          have hr2 := ho2.rd
          have bk2 := hb.trans (hb2.mono hb.size)
          have hel := elems_len (nth xs k).toNat
          have HI := Lib.hid hin
          clear hin cr dr hc
          obtain ⟨es, hes⟩ : ∃ es, es = elems (nth xs k).toNat := ⟨_, rfl⟩
          rw [← hes] at ho2 hr2 hel
          have HES := Lib.hid hes
          rw [← hes]
          clear hes ho2 hb2
          go_wp2_with fail
          go_loop [24] (fun i => ∃ j : Nat, j ≤ es.length ∧ i = .int .i64 j ∧ (∀ m, m < j → sub (nth xs (nth es m).toNat).toNat (nth xs k).toNat = 0)) (fun i => es.length - (intOf i).toNat)
          case atStart => exact ⟨0, Nat.zero_le _, rfl, fun m hm => by omega⟩
          case round =>
            obtain ⟨j, hj, rfl, hin2⟩ := hrel
            have HIN := Lib.hid hin2
            clear hin2
            by_cases hjl : j < es.length
            · obtain ⟨b2, off2, rfl, hbl2, hc2⟩ := hr2.cell j hjl
              obtain ⟨i, hil, hib, hie⟩ : ∃ i : Nat, i < xs.length ∧ hasB (nth xs k) i = true ∧ nth es j = (i : Int) := by
                have := elem_at hp hlt (m := j) (by rw [← HES.out]; exact hjl)
                rw [← HES.out] at this
                exact this
              obtain ⟨b3, off3, e3, hbl3, hc3⟩ := hx2.cell i hil
              simp only [Option.some.injEq, Addr.mk.injEq, and_true] at e3
              obtain ⟨rfl, rfl⟩ := e3
              have hpi := hp.pos i hil
              have hsi := hp.small i hil
              have hsub := sub_i (a := nth xs i) (b := nth xs k) hpi (by omega) hpk (by omega)
              have HB := Lib.hid hib
              have HE := Lib.hid hie
              rw [hie] at hc2
              clear hib hie
              by_cases hz : sub (nth xs i).toNat (nth xs k).toNat = 0
              · have hne : (bits BinOp.andNot IntKind.i64 (nth xs i) (nth xs k) != 0) = false := by rw [hsub, hz]; rfl
                have HZ := Lib.hid hz
                clear hz hsub
                go_wp2_with fail
                go_round
                case rel =>
                  refine ⟨j + 1, by omega, by go_num, fun m hm => ?_⟩
                  by_cases e : m = j
                  · rw [e, HE.out, Int.toNat_natCast]; exact HZ.out
                  · exact HIN.out m (by omega)
                case measure => simp [intOf]; omega
              · have hne : (bits BinOp.andNot IntKind.i64 (nth xs i) (nth xs k) != 0) = true := by rw [hsub]; simp; omega
                have HN := Lib.hid (ordB_no (n := n) hlt (okAtB_sub hil HB.out hz))
                clear hz hsub
                go_wp2_with fail
                go_ret
                exact ⟨ret_bool HN.out.symm, bw2⟩
            · obtain rfl : j = es.length := by omega
              have hok : okAtB xs k = true := by
                rw [okAtB_iff]
                refine ⟨HI.out, fun j hj hbj => ?_⟩
                obtain ⟨m, hm, e⟩ := at_elem hp hlt hbj
                rw [← HES.out] at hm e
                have := HIN.out m hm
                rwa [e, Int.toNat_natCast] at this
              have HK := Lib.hid hok
              clear hok
              go_wp2_with fail
              go_roundw
              case rel =>
                refine ⟨k + 1, by omega, by go_num, fun j hj => ?_, bk2⟩
                by_cases e : j = k
                · rw [e]; exact HK.out
                · exact HA.out j (by omega)
              case measure => simp [intOf]; omega
        · have HN := Lib.hid (ordB_no (n := n) hlt (okAtB_has hin))
          go_wp2_with fail
          refine (orHas_any _ _ _ hpk hsk' (by omega)).mono ?_
          rintro e w' ⟨rfl, rfl⟩
          go_wp2_with fail
          go_ret
          exact ⟨ret_bool HN.out.symm, bwr⟩
      · obtain rfl : k = xs.length := by omega
        go_wp2_with fail
        go_ret
        exact ⟨ret_bool (ordB_iff.2 ⟨HR.out, HA.out⟩).symm, bwr⟩

theorem ivGoodOrder_any (n : Int) (a : Option Addr) (xs : List Int) (cap : Nat) (w : World) (hx : Rd w a xs) :
    Calls Try.prog 92 #[.agg #[.int .i64 n, .slice a xs.length cap]] w fun e w' => e = .returned (.bool (isIv n xs)) ∧ Below w.heap.size w w' := by
  have hx1 := hx.alloc (.cells #[.int .i64 n, .slice a xs.length cap] 26)
  cases hr : ordB n xs
  · have H1 : Hid (isIv n xs = false) := by simp [Hid, isIv, hr]
    go_enter Try.func92, Try.ntmps92
    go_wp2_with fail
    refine (orGood_any _ _ _ _ _ hx1).mono ?_
    rw [hr]
    rintro e w1 ⟨rfl, hb1⟩
    have bw1 : Below w.heap.size w w1 := Below.trans (by repeat (first | exact Below.refl _ _ | assumption | refine Below.alloc ?_ (by first | exact Nat.le_refl _ | (simp only [World.size_alloc, World.size_setCell, World.size_drew]; omega) | omega) _ | refine Below.setCell ?_ (by first | exact Nat.le_refl _ | (simp only [World.size_alloc, World.size_setCell, World.size_drew]; omega) | omega) _ | refine Below.drew ?_)) (hb1.mono (by first | (simp only [World.size_alloc, World.size_setCell, World.size_drew]; omega) | omega))
    go_wp2_with fail
    go_ret
    exact ⟨ret_bool H1.out.symm, bw1⟩
  · have hp := ord_rel hr
    have H1 : Hid (isIv n xs = !(twoF xs).isSome) := by simp [Hid, isIv, hr]
    go_enter Try.func92, Try.ntmps92
    go_wp2_with fail
    refine (orGood_any _ _ _ _ _ hx1).mono ?_
    rw [hr]
    rintro e w1 ⟨rfl, hb1⟩
    have A1 : Box2 w1 w.heap.size (.int .i64 n) (.slice a xs.length cap) := (Box2.new w _ _ _).below hb1
    have bw1 : Below w.heap.size w w1 := Below.trans (by repeat (first | exact Below.refl _ _ | assumption | refine Below.alloc ?_ (by first | exact Nat.le_refl _ | (simp only [World.size_alloc, World.size_setCell, World.size_drew]; omega) | omega) _ | refine Below.setCell ?_ (by first | exact Nat.le_refl _ | (simp only [World.size_alloc, World.size_setCell, World.size_drew]; omega) | omega) _ | refine Below.drew ?_)) (hb1.mono (by first | (simp only [World.size_alloc, World.size_setCell, World.size_drew]; omega) | omega))
    have ⟨zA, cA, dA⟩ := A1
    clear hb1 hr
    go_wp2_with fail
    refine (ivIs_any _ _ _ _ _ (hx.below bw1) hp).mono ?_
    rintro e w2 ⟨rfl, hb2⟩
    go_wp2_with fail
    go_ret
    exact ⟨ret_bool (by rw [H1.out]; cases twoF xs <;> rfl), bw1.trans (hb2.mono bw1.size)⟩

theorem sEnds_any (n : Int) (a : Option Addr) (xs : List Int) (cap : Nat) (w : World) (hn : -9223372036854775808 ≤ n ∧ n ≤ 9223372036854775807) (hx : Rd w a xs) :
    Calls Try.prog 48 #[.agg #[.int .i64 n, .slice a xs.length cap]] w (GotV w (endN n xs) (endL n xs) (isIv n xs)) := by
  have hx1 := hx.alloc (.cells #[.int .i64 n, .slice a xs.length cap] 26)
  cases hr : isIv n xs
  · have H1 : Hid (endN n xs = 0) := by simp [Hid, endN, hr]
    have H2 : Hid (endL n xs = []) := by simp [Hid, endL, hr]
    have HR := Lib.hid hr
    clear hr
    go_enter Try.func48, Try.ntmps48
    go_wp2_with fail
    refine (ivGoodOrder_any _ _ _ _ _ hx1).mono ?_
    rw [HR.out]
    rintro e w1 ⟨rfl, hb1⟩
    have bw1 : Below w.heap.size w w1 := Below.trans (by repeat (first | exact Below.refl _ _ | assumption | refine Below.alloc ?_ (by first | exact Nat.le_refl _ | (simp only [World.size_alloc, World.size_setCell, World.size_drew]; omega) | omega) _ | refine Below.setCell ?_ (by first | exact Nat.le_refl _ | (simp only [World.size_alloc, World.size_setCell, World.size_drew]; omega) | omega) _ | refine Below.drew ?_)) (hb1.mono (by first | (simp only [World.size_alloc, World.size_setCell, World.size_drew]; omega) | omega))
    go_wp2_with fail
    refine bodyPost_ret (v := .tuple #[.slice none 0 0, .bool false]) (by simp [results, Try.results48, go_sem]) rfl ?_
    exact ⟨none, 0, by rw [H1.out], by rw [H1.out, H2.out]; exact OwnV.nil _ _, bw1⟩
  · have ho := isIv_ord hr
    have H1 : Hid (endN n xs = xs.length) := by simp [Hid, endN, hr]
    have H2 : Hid (endL n xs = endp xs xs.length) := by simp [Hid, endL, hr]
    have HR := Lib.hid hr
    have HO := Lib.hid ho
    clear hr ho
    go_enter Try.func48, Try.ntmps48
    go_wp2_with fail
    refine (ivGoodOrder_any _ _ _ _ _ hx1).mono ?_
    rw [HR.out]
    rintro e w1 ⟨rfl, hb1⟩
    have A1 : Box2 w1 w.heap.size (.int .i64 n) (.slice a xs.length cap) := (Box2.new w _ _ _).below hb1
    have bw1 : Below w.heap.size w w1 := Below.trans (by repeat (first | exact Below.refl _ _ | assumption | refine Below.alloc ?_ (by first | exact Nat.le_refl _ | (simp only [World.size_alloc, World.size_setCell, World.size_drew]; omega) | omega) _ | refine Below.setCell ?_ (by first | exact Nat.le_refl _ | (simp only [World.size_alloc, World.size_setCell, World.size_drew]; omega) | omega) _ | refine Below.drew ?_)) (hb1.mono (by first | (simp only [World.size_alloc, World.size_setCell, World.size_drew]; omega) | omega))
    have ⟨zA, cA, dA⟩ := A1
    clear hb1
    go_wp2_with fail
    refine (ivEnds_any _ _ _ _ _ (hx.below bw1) HO.out).mono ?_
    rintro e w2 ⟨a2, cap2, rfl, ho2, hb2⟩
    go_wp2_with fail
    refine bodyPost_ret (v := .tuple #[.slice a2 xs.length cap2, .bool true]) (by simp [results, Try.results48, go_sem]) rfl ?_
    exact ⟨a2, cap2, by rw [H1.out], by rw [H1.out, H2.out]; exact ho2.mono bw1.size, bw1.trans (hb2.mono bw1.size)⟩

theorem iMirrorOf_any (n : Int) (a : Option Addr) (xs : List Int) (cap : Nat) (w : World) (hn : -9223372036854775808 ≤ n ∧ n ≤ 9223372036854775807) (hx : Rd w a xs) :
    Calls Try.prog 12 #[.agg #[.int .i64 n, .slice a xs.length cap]] w (GotO w (mirN n xs) (mirL n xs) (relB n xs)) := by
  have hx1 := (hx.alloc (.cells #[.int .i64 n, .slice a xs.length cap] 26)).alloc (.cells #[.int .i64 0, .slice none 0 0] 26)
  cases hr : relB n xs
  · have H1 : Hid (mirN n xs = 0) := by simp [Hid, mirN, hr]
    have H2 : Hid (mirL n xs = []) := by simp [Hid, mirL, hr]
    go_enter Try.func12, Try.ntmps12
    go_wp2_with fail
    refine (iIsRelation_any _ _ _ _ _ hn hx1).mono ?_
    rintro e w1 ⟨rfl, hb1⟩
    have hz := hb1.size
    simp only [World.size_alloc] at hz
    obtain ⟨hc, hf⟩ := bcell hb1
    have bw1 : Below w.heap.size w w1 := Below.trans (by repeat (first | exact Below.refl _ _ | assumption | refine Below.alloc ?_ (by first | exact Nat.le_refl _ | (simp only [World.size_alloc, World.size_setCell, World.size_drew]; omega) | omega) _ | refine Below.setCell ?_ (by first | exact Nat.le_refl _ | (simp only [World.size_alloc, World.size_setCell, World.size_drew]; omega) | omega) _ | refine Below.drew ?_)) (hb1.mono (by first | (simp only [World.size_alloc, World.size_setCell, World.size_drew]; omega) | omega))
    go_wp2_with fail
    refine bodyPost_ret (v := .tuple #[.agg #[.int .i64 0, .slice none 0 0], .bool false]) (by simp [results, Try.results12, go_sem, hc]) rfl ?_
    refine ⟨none, 0, ?_, ?_, ?_⟩
    · rw [H1.out, H2.out]; rfl
    · rw [H2.out]; exact OwnI.nil _ _
    · exact (bw1.setCell (by simp) _).setCell (by simp) _
  · have hp := relB_p hr
    have H1 : Hid (mirN n xs = n) := by simp [Hid, mirN, hr]
    have H2 : Hid (mirL n xs = belows xs xs.length) := by simp [Hid, mirL, hr]
    go_enter Try.func12, Try.ntmps12
    go_wp2_with fail
    refine (iIsRelation_any _ _ _ _ _ hn hx1).mono ?_
    rintro e w1 ⟨rfl, hb1⟩
    have A1 : Box2 w1 w.heap.size (.int .i64 n) (.slice a xs.length cap) := ((Box2.new w _ _ _).below ((Below.refl _ _).alloc (Nat.le_refl _) _)).below hb1
    have R1 : Var2 w1 (w.heap.size + 1) (.int .i64 0) (.slice none 0 0) := by
      have := (Var2.new (w.alloc (.cells #[.int .i64 n, .slice a xs.length cap] 26)) (.int .i64 0) (.slice none 0 0) 26).below hb1
      simpa using this
    have ⟨zA, cA, dA⟩ := A1
    have bw1 : Below w.heap.size w w1 := Below.trans (by repeat (first | exact Below.refl _ _ | assumption | refine Below.alloc ?_ (by first | exact Nat.le_refl _ | (simp only [World.size_alloc, World.size_setCell, World.size_drew]; omega) | omega) _ | refine Below.setCell ?_ (by first | exact Nat.le_refl _ | (simp only [World.size_alloc, World.size_setCell, World.size_drew]; omega) | omega) _ | refine Below.drew ?_)) (hb1.mono (by first | (simp only [World.size_alloc, World.size_setCell, World.size_drew]; omega) | omega))
    clear hb1
    go_wp2_with fail
    go_region_held3 (fun w' => w'.cell? ⟨w.heap.size, 0, none⟩ = some (.int .i64 n) ∧ w'.cell? ⟨w.heap.size, 1, none⟩ = some (.slice a xs.length cap))
      (first | exact ⟨A2.2.1, A2.2.2⟩ | go_keep)
      (first | (go_at_call 57; refine (belowSets_any _ _ _ _ _ (hx.below (bw1.trans (Joins.below_draws _ _ _))) hp).mono ?_; rintro e w2 ⟨a2, cap2, rfl, ho2, hb2⟩; have ht2 : Below w1.heap.size w1 w2 := (Joins.below_draws _ _ _).trans hb2; have A2 := A1.below ht2; have R2 := R1.below ht2; have ⟨⟨zR, cR, dR⟩, fR, gR⟩ := R2))
    go_wp2_with fail
    have R3 := R2.set (.int .i64 n) (.slice a2 xs.length cap2)
    refine bodyPost_ret (v := .tuple #[.agg #[.int .i64 n, .slice a2 xs.length cap2], .bool true]) (by have ⟨⟨_, q1, q2⟩, _, _⟩ := R3; simp [results, Try.results12, go_sem, q1, q2]) rfl ?_
    refine ⟨a2, cap2, ?_, ?_, ?_⟩
    · rw [H1.out, H2.out, belows_len]
    · rw [H2.out, belows_len]
      have z12 : w.heap.size + 1 < w1.heap.size := R1.1.1
      exact ((ho2.setBelow (p := ⟨w.heap.size + 1, 0, none⟩) (show w.heap.size + 1 < w1.heap.size from z12) _).setBelow (p := ⟨w.heap.size + 1, 1, none⟩) (show w.heap.size + 1 < w1.heap.size from z12) _).mono (show w.heap.size ≤ w1.heap.size by omega)
    · exact ((bw1.trans (ht2.mono bw1.size)).setCell (by simp) _).setCell (by simp) _

theorem ret_ib' {a a' : Int} {b b' : Bool} (h1 : a = a') (h2 : b = b') : Ending.returned (.tuple #[.int .i64 a, .bool b]) = .returned (.tuple #[.int .i64 a', .bool b']) := by rw [h1, h2]

theorem iMagnitude_any (n : Int) (a : Option Addr) (xs : List Int) (cap : Nat) (w : World) (hn : -9223372036854775808 ≤ n ∧ n ≤ 9223372036854775807) (hx : Rd w a xs) :
    Calls Try.prog 44 #[.agg #[.int .i64 n, .slice a xs.length cap]] w fun e w' => e = .returned (.tuple #[.int .i64 (magF n xs), .bool (isIv n xs)]) ∧ Below w.heap.size w w' := by
  have hx1 := hx.alloc (.cells #[.int .i64 n, .slice a xs.length cap] 26)
  cases hr : isIv n xs
  · have H1 : Hid (magF n xs = 0) := by simp [Hid, magF, hr]
    have HR := Lib.hid hr
    clear hr
    go_enter Try.func44, Try.ntmps44
    go_wp2_with fail
    refine (iIsInterval_any _ _ _ _ _ hn hx1).mono ?_
    rw [HR.out]
    rintro e w1 ⟨rfl, hb1⟩
    have bw1 : Below w.heap.size w w1 := Below.trans (by repeat (first | exact Below.refl _ _ | assumption | refine Below.alloc ?_ (by first | exact Nat.le_refl _ | (simp only [World.size_alloc, World.size_setCell, World.size_drew]; omega) | omega) _ | refine Below.setCell ?_ (by first | exact Nat.le_refl _ | (simp only [World.size_alloc, World.size_setCell, World.size_drew]; omega) | omega) _ | refine Below.drew ?_)) (hb1.mono (by first | (simp only [World.size_alloc, World.size_setCell, World.size_drew]; omega) | omega))
    go_wp2_with fail
    go_ret2
    exact ⟨ret_ib' H1.out.symm rfl, bw1⟩
  · have ho := isIv_ord hr
    have hp := ord_rel ho
    have hsl := sets_len xs
    have hl10 : xs.length ≤ 10 := by have := hp.len; have := hp.n1; omega
    have H1 : Hid (magF n xs = ((sets xs).length : Int)) := by rw [Hid, magF, if_pos hr]
    have HR := Lib.hid hr
    have HO := Lib.hid ho
    clear hr ho
    go_enter Try.func44, Try.ntmps44
    go_wp2_with fail
    refine (iIsInterval_any _ _ _ _ _ hn hx1).mono ?_
    rw [HR.out, HO.out]
    rintro e w1 ⟨rfl, hb1⟩
    have A1 : Box2 w1 w.heap.size (.int .i64 n) (.slice a xs.length cap) := (Box2.new w _ _ _).below hb1
    have bw1 : Below w.heap.size w w1 := Below.trans (by repeat (first | exact Below.refl _ _ | assumption | refine Below.alloc ?_ (by first | exact Nat.le_refl _ | (simp only [World.size_alloc, World.size_setCell, World.size_drew]; omega) | omega) _ | refine Below.setCell ?_ (by first | exact Nat.le_refl _ | (simp only [World.size_alloc, World.size_setCell, World.size_drew]; omega) | omega) _ | refine Below.drew ?_)) (hb1.mono (by first | (simp only [World.size_alloc, World.size_setCell, World.size_drew]; omega) | omega))
    have ⟨zA, cA, dA⟩ := A1
    clear hb1
    go_wp2_with fail
    refine (lowerSets_any _ _ _ _ _ (hx.below bw1) hp).mono ?_
    rintro e w2 ⟨a2, cap2, rfl, ho2, hb2⟩
    clear ho2
    go_wp2_with fail
    go_ret2
    exact ⟨ret_ib' H1.out.symm rfl, bw1.trans (hb2.mono bw1.size)⟩

theorem isWrong_any (x y : Int) (w : World) :
    Calls Try.prog 121 #[.agg #[.int .i64 x, .int .i64 y]] w fun e w' => e = .returned (.bool (wrongB x y)) ∧ Below w.heap.size w w' := by
  by_cases h1 : x < -1000
  · have H : Hid (wrongB x y = true) := by simp [Hid, wrongB, h1]
    go_enter Try.func121, Try.ntmps121
    go_wp2
    go_ret
    exact ⟨ret_bool H.out.symm, (by repeat (first | exact Below.refl _ _ | assumption | refine Below.alloc ?_ (by first | exact Nat.le_refl _ | (simp only [World.size_alloc, World.size_setCell, World.size_drew]; omega) | omega) _ | refine Below.setCell ?_ (by first | exact Nat.le_refl _ | (simp only [World.size_alloc, World.size_setCell, World.size_drew]; omega) | omega) _ | refine Below.drew ?_))⟩
  · by_cases h2 : y < x
    · have H : Hid (wrongB x y = true) := by simp [Hid, wrongB, h2]
      go_enter Try.func121, Try.ntmps121
      go_wp2
      go_ret
      exact ⟨ret_bool H.out.symm, (by repeat (first | exact Below.refl _ _ | assumption | refine Below.alloc ?_ (by first | exact Nat.le_refl _ | (simp only [World.size_alloc, World.size_setCell, World.size_drew]; omega) | omega) _ | refine Below.setCell ?_ (by first | exact Nat.le_refl _ | (simp only [World.size_alloc, World.size_setCell, World.size_drew]; omega) | omega) _ | refine Below.drew ?_))⟩
    · have H : Hid (wrongB x y = decide (1000 < y)) := by simp [Hid, wrongB, h1, h2]
      go_enter Try.func121, Try.ntmps121
      go_wp2
      go_ret
      exact ⟨ret_bool (by rw [H.out]), (by repeat (first | exact Below.refl _ _ | assumption | refine Below.alloc ?_ (by first | exact Nat.le_refl _ | (simp only [World.size_alloc, World.size_setCell, World.size_drew]; omega) | omega) _ | refine Below.setCell ?_ (by first | exact Nat.le_refl _ | (simp only [World.size_alloc, World.size_setCell, World.size_drew]; omega) | omega) _ | refine Below.drew ?_))⟩

/-- the first wrong pair, or -1 -/
def idxW (cs : List Int) (n : Nat) : Int := match (List.range n).find? (fun k => wrongB (lft cs k) (rgt cs k)) with | some k => (k : Int) | none => -1
theorem idxW_at {cs : List Int} {n k : Nat} (hk : k < n) (h : wrongB (lft cs k) (rgt cs k) = true) (hb : ∀ j, j < k → wrongB (lft cs j) (rgt cs j) = false) : idxW cs n = (k : Int) := by
  have : (List.range n).find? (fun k => wrongB (lft cs k) (rgt cs k)) = some k := by
    rw [List.find?_range_eq_some]
    exact ⟨h, by simpa using hk, fun j hj => by simp [hb j hj]⟩
  rw [idxW, this]
theorem idxW_none {cs : List Int} {n : Nat} (h : ∀ j, j < n → wrongB (lft cs j) (rgt cs j) = false) : idxW cs n = -1 := by
  have : (List.range n).find? (fun k => wrongB (lft cs k) (rgt cs k)) = none := by
    rw [List.find?_eq_none]
    intro x hx
    simp [h x (by simpa using hx)]
  rw [idxW, this]
theorem indexWrong_any (a : Option Addr) (cs : List Int) (n cap : Nat) (w : World) (hx : Rd w a cs) (hl : cs.length = n * 2) (hn : n ≤ 1048576) :
    Calls Try.prog 126 #[.slice a n cap, .func (.func 121) #[] #[]] w fun e w' => e = .returned (.int .i64 (idxW cs n)) ∧ Below w.heap.size w w' := by
  have HL := Lib.hid hl
  clear hl
  go_enter Try.func126, Try.ntmps126
  go_wp2_with fail
  go_loopw [8] (fun i wr => ∃ k : Nat, k ≤ n ∧ i = .int .i64 k ∧ (∀ j, j < k → wrongB (lft cs j) (rgt cs j) = false) ∧ Below w.heap.size w wr) (fun i _ => n - (intOf i).toNat)
  case atStart => exact ⟨0, Nat.zero_le _, rfl, fun j hj => by omega, Below.refl _ _⟩
  case round =>
    obtain ⟨k, hk, rfl, hall, hb⟩ := hrel
    have HA := Lib.hid hall
    clear hall
    by_cases hlt : k < n
    · obtain ⟨b, off, rfl, hbl, hc1, hc2⟩ := (hx.below hb).pair HL.out hlt
      cases hw : wrongB (lft cs k) (rgt cs k)
      · have HW := Lib.hid hw
        go_wp2_with fail
        refine (isWrong_any _ _ _).mono ?_
        rw [HW.out]
        rintro e w2 ⟨rfl, hb2⟩
        have bw2 := hb.trans (hb2.mono hb.size)
        go_wp2_with fail
        go_roundw
        case rel =>
          refine ⟨k + 1, by omega, by go_num, fun j hj => ?_, bw2⟩
          by_cases e : j = k
          · rw [e]; exact HW.out
          · exact HA.out j (by omega)
        case measure => simp [intOf]; omega
      · have HI := Lib.hid (idxW_at hlt hw HA.out)
        have HW := Lib.hid hw
        go_wp2_with fail
        refine (isWrong_any _ _ _).mono ?_
        rw [HW.out]
        rintro e w2 ⟨rfl, hb2⟩
        have bw2 := hb.trans (hb2.mono hb.size)
        go_wp2_with fail
        go_ret
        exact ⟨ret_int HI.out.symm, bw2⟩
    · obtain rfl : k = n := by omega
      have HI := Lib.hid (idxW_none HA.out)
      go_wp2_with fail
      go_ret
      exact ⟨ret_int HI.out.symm, hb⟩
theorem containsWrong_any (a : Option Addr) (cs : List Int) (n cap : Nat) (w : World) (hx : Rd w a cs) (hl : cs.length = n * 2) (hn : n ≤ 1048576) :
    Calls Try.prog 120 #[.slice a n cap, .func (.func 121) #[] #[]] w fun e w' => e = .returned (.bool (decide (0 ≤ idxW cs n))) ∧ Below w.heap.size w w' := by
  go_enter Try.func120, Try.ntmps120
  go_wp2_with fail
  refine (indexWrong_any _ _ _ _ _ hx hl hn).mono ?_
  rintro e w2 ⟨rfl, hb2⟩
  clear hl
  go_wp2_with fail
  go_ret
  exact ⟨rfl, hb2⟩
theorem good_idx {cs : List Int} {n : Nat} (h : n ≤ 10) : goodV cs n = !decide (0 ≤ idxW cs n) := by
  cases hg : goodV cs n
  · have h1 : ∃ k, k < n ∧ wrongB (lft cs k) (rgt cs k) = true := by
      apply Classical.byContradiction
      intro hne
      have : goodV cs n = true := goodV_iff.2 ⟨h, fun k hk => by
        cases hw : wrongB (lft cs k) (rgt cs k)
        · rfl
        · exact absurd ⟨k, hk, hw⟩ hne⟩
      rw [hg] at this; cases this
    unfold idxW
    cases hf : (List.range n).find? (fun k => wrongB (lft cs k) (rgt cs k)) with
    | none =>
      obtain ⟨k, hk, hw⟩ := h1
      rw [List.find?_eq_none] at hf
      exact absurd hw (hf k (by simpa using hk))
    | some k => simp
  · rw [idxW_none (goodV_iff.1 hg).2]; rfl

theorem iAreIntervals_any (a : Option Addr) (cs : List Int) (n cap : Nat) (w : World) (hx : Rd w a cs) (hl : cs.length = n * 2) (hn : n ≤ 1048576) :
    Calls Try.prog 94 #[.slice a n cap] w fun e w' => e = .returned (.bool (goodV cs n)) ∧ Below w.heap.size w w' := by
  by_cases h : n ≤ 10
  · have H := Lib.hid (good_idx (cs := cs) h)
    have HL := Lib.hid hl
    clear hl
    go_enter Try.func94, Try.ntmps94
    go_wp2_with fail
    refine (containsWrong_any _ _ _ _ _ hx HL.out hn).mono ?_
    rintro e w2 ⟨rfl, hb2⟩
    go_wp2_with fail
    go_ret
    exact ⟨ret_bool (by rw [H.out]), hb2⟩
  · have H := Lib.hid (goodV_big (cs := cs) (n := n) (by omega))
    clear hl
    go_enter Try.func94, Try.ntmps94
    go_wp2_with fail
    go_ret
    exact ⟨ret_bool H.out.symm, Below.refl _ _⟩

theorem iMirrorIv_any (a : Option Addr) (cs : List Int) (n cap : Nat) (w : World) (hx : Rd w a cs) (hl : cs.length = n * 2) (hn : n ≤ 1048576) :
    Calls Try.prog 50 #[.slice a n cap] w (GotV w (mirVN cs n) (mirVL cs n) (goodV cs n)) := by
  obtain ⟨i0, hi, hz0, hz1, hz2⟩ := info_parts infoIv
  have HL := Lib.hid hl
  clear hl
  cases hg : goodV cs n
  · have H1 : Hid (mirVN cs n = 0) := by simp [Hid, mirVN, hg]
    have H2 : Hid (mirVL cs n = []) := by simp [Hid, mirVL, hg]
    have HG := Lib.hid hg
    clear hg
    go_enter Try.func50, Try.ntmps50
    go_wp2_with fail
    refine (iAreIntervals_any _ _ _ _ _ hx HL.out hn).mono ?_
    rw [HG.out]
    rintro e w1 ⟨rfl, hb1⟩
    go_wp2_with fail
    refine bodyPost_ret (v := .tuple #[.slice none 0 0, .bool false]) (by simp [results, Try.results50, go_sem]) rfl ?_
    exact ⟨none, 0, by rw [H1.out], by rw [H1.out, H2.out]; exact OwnV.nil _ _, hb1⟩
  · have ⟨hn10, hbd⟩ := goodV_iff.1 hg
    have H1 : Hid (mirVN cs n = n) := by simp [Hid, mirVN, hg]
    have H2 : Hid (mirVL cs n = mirVp cs n) := by simp [Hid, mirVL, hg]
    have HG := Lib.hid hg
    have HB := Lib.hid hbd
    clear hg hbd
    go_enter Try.func50, Try.ntmps50
    go_wp2_with fail
    refine (iAreIntervals_any _ _ _ _ _ hx HL.out hn).mono ?_
    rw [HG.out]
    rintro e w1 ⟨rfl, hb1⟩
    go_wp2_with (at_make; refine wpList_make_full _ rfl (.tmp 11) (.tmp 11) 47 rfl w1.heap.size 54 i0 (.agg #[.int .i64 0, .int .i64 0]) 2 Try.underlying47 hi hz0 hz1 .i64 .i64 _ _ n rfl rfl rfl rfl (by rw [hz2]; omega) (by unfold maxLen; omega) (Nat.le_refl _) ?_; intro w2 hown hgrow)
    have hb2 : Below w1.heap.size w1 w2 := (Below.refl _ _).grown hgrow (Nat.le_refl _) (fun k h => by cases h)
    have hown0 := made_rowP (fun k => -rgt cs k) (fun k => -lft cs k) hown
    have bw2 := hb1.trans (hb2.mono hb1.size)
    obtain ⟨g, hgz⟩ : ∃ g, g = w1.heap.size := ⟨_, rfl⟩
    rw [← hgz] at hown0 ⊢
    have hgw : w.heap.size ≤ g := by have := hb1.size; omega
    clear hown hgrow hb2 hgz
    go_wp2_with fail
    go_loopw [15] (fun i wr => ∃ k : Nat, k ≤ n ∧ i = .int .i64 k ∧ OwnV wr w.heap.size (.slice (some ⟨g, 0, none⟩) n n) n (rowP (fun k => -rgt cs k) (fun k => -lft cs k) n k) ∧ Below w.heap.size w wr) (fun i _ => n - (intOf i).toNat)
    case atStart => exact ⟨0, Nat.zero_le _, rfl, hown0.mono hgw, bw2⟩
    case round =>
      obtain ⟨k, hk, rfl, hown, hb⟩ := hrel
      by_cases hlt : k < n
      · obtain ⟨b, off, rfl, hbl, hc1, hc2⟩ := (hx.below hb).pair HL.out hlt
        have ⟨hb1', hb2', hb3'⟩ := wrongB_no.1 (HB.out k hlt)
        have hgl := (hown.lt g rfl).2
        have hzr := hb.size
        have hpl := rowP_len (fun k => -rgt cs k) (fun k => -lft cs k) hk
        have ⟨c1, f1⟩ := hown.at' (i := k * 2) (by omega)
        have ⟨c2, f2⟩ := hown.at' (i := k * 2 + 1) (by omega)
        have p1 := hown.put (k * 2) (-rgt cs k)
        have p2 := p1.1.put (k * 2 + 1) (-lft cs k)
        rw [rowP_next _ _ hlt] at p2
        have P2 := Lib.hid (p2.1.alloc (.cells #[.int .i64 (lft cs k), .int .i64 (rgt cs k)] 54))
        have bw3 := ((hb.setCell (p := ⟨g, k * 2, none⟩) hgw (.int .i64 (-rgt cs k))).setCell (p := ⟨g, k * 2 + 1, none⟩) hgw (.int .i64 (-lft cs k))).alloc (by simp; omega) (.cells #[.int .i64 (lft cs k), .int .i64 (rgt cs k)] 54)
        clear hown p1 p2 hpl
        go_wp2_with fail
        go_roundw
        case rel => exact ⟨k + 1, by omega, by go_num, P2.out, bw3⟩
        case measure => simp [intOf]; omega
      · obtain rfl : k = n := by omega
        rw [rowP_end] at hown
        go_wp2_with fail
        refine bodyPost_ret (v := .tuple #[.slice (some ⟨g, 0, none⟩) k k, .bool true]) (by simp [results, Try.results50, go_sem]) rfl ?_
        exact ⟨some ⟨g, 0, none⟩, k, by rw [H1.out], by rw [H1.out, H2.out]; exact hown, hb⟩

theorem sliceEqual_any (a b : Option Addr) (xs ys : List Int) (ca cb : Nat) (w : World) (hx : Rd w a xs) (hy : Rd w b ys) :
    Calls Try.prog 96 #[.slice a xs.length ca, .slice b ys.length cb] w fun e w' => e = .returned (.bool (eqL xs ys)) ∧ Below w.heap.size w w' := by
  have hlx := hx.len
  have hly := hy.len
  by_cases hl : xs.length = ys.length
  · have hl' : ((xs.length : Int) != (ys.length : Int)) = false := by simp [hl]
    go_enter Try.func96, Try.ntmps96
    have HL := Lib.hid hl
    clear hl
    go_wp2_with fail
    go_loopw [13] (fun i wr => ∃ k : Nat, k ≤ xs.length ∧ i = .int .i64 k ∧ xs.take k = ys.take k ∧ Below w.heap.size w wr) (fun i _ => xs.length - (intOf i).toNat)
    case atStart => exact ⟨0, Nat.zero_le _, rfl, rfl, Below.refl _ _⟩
    case round =>
      obtain ⟨k, hk, rfl, htk, hb⟩ := hrel
      have HT := Lib.hid htk
      clear htk
      by_cases hlt : k < xs.length
      · have hlt' : k < ys.length := by rw [← HL.out]; exact hlt
        obtain ⟨b1, o1, rfl, hb1, hc1⟩ := (hx.below hb).cell k hlt
        obtain ⟨b2, o2, rfl, hb2, hc2⟩ := (hy.below hb).cell k hlt'
        by_cases he : nth xs k = nth ys k
        · have he' : (nth xs k != nth ys k) = false := by simp [he]
          have HE := Lib.hid he
          clear he
          go_wp2_with fail
          go_quiet (fail)
          go_wp2_with fail
          go_roundw
          case rel =>
            refine ⟨k + 1, by omega, by go_num, ?_, by exact hb.trans (Joins.below_draws _ _ _)⟩
            rw [List.take_succ_eq_append_getElem hlt, List.take_succ_eq_append_getElem hlt', HT.out, ← nth_get, ← nth_get, HE.out]
          case measure => simp [intOf]; omega
        · have he' : (nth xs k != nth ys k) = true := by simp [he]
          have hne : eqL xs ys = false := by
            simp only [eqL, decide_eq_false_iff_not]
            intro e
            subst e
            exact he rfl
          have HN := Lib.hid hne
          clear he hne
          go_wp2_with fail
          go_quiet (fail)
          go_wp2_with fail
          go_ret
          exact ⟨ret_bool HN.out.symm, hb.trans (Joins.below_draws _ _ _)⟩
      · go_wp2_with fail
        go_ret
        refine ⟨ret_bool ?_, hb⟩
        have h1 := HT.out
        rw [List.take_of_length_le (by omega), List.take_of_length_le (by rw [← HL.out]; omega)] at h1
        simp [eqL, h1]
  · have hl' : ((xs.length : Int) != (ys.length : Int)) = true := by simp; omega
    have hne : eqL xs ys = false := by
      simp only [eqL, decide_eq_false_iff_not]
      intro e
      exact hl (by rw [e])
    have HN := Lib.hid hne
    clear hl hne
    go_enter Try.func96, Try.ntmps96
    go_wp2_with fail
    go_ret
    exact ⟨ret_bool HN.out.symm, Below.refl _ _⟩

theorem isBefore_any (x y x' y' : Int) (w : World) :
    Calls Try.prog 113 #[.agg #[.int .i64 x, .int .i64 y], .agg #[.int .i64 x', .int .i64 y']] w fun e w' => e = .returned (.bool (decide (y < x'))) ∧ Below w.heap.size w w' := by
  by_cases h : y < x'
  all_goals
    go_enter Try.func113, Try.ntmps113
    go_wp2
    go_ret
    exact ⟨ret_bool (by simp [h]), (by repeat (first | exact Below.refl _ _ | assumption | refine Below.alloc ?_ (by first | exact Nat.le_refl _ | (simp only [World.size_alloc, World.size_setCell, World.size_drew]; omega) | omega) _ | refine Below.setCell ?_ (by first | exact Nat.le_refl _ | (simp only [World.size_alloc, World.size_setCell, World.size_drew]; omega) | omega) _ | refine Below.drew ?_))⟩

theorem cmpBefore_any (a : Option Addr) (cs : List Int) (n cap : Nat) (x y : Int) (w : World) (hx : Rd w a cs) (hl : cs.length = n * 2) (hn : n ≤ 10) :
    Calls Try.prog 88 #[.slice a n cap, .agg #[.int .i64 x, .int .i64 y], .func (.func 113) #[] #[]] w fun e w' => e = .returned (.int .i64 (befTo cs y n)) ∧ Below w.heap.size w w' := by
  have HL := Lib.hid hl
  clear hl
  go_enter Try.func88, Try.ntmps88
  go_wp2_with fail
  go_loopw [7, 12] (fun s i wr => ∃ k : Nat, k ≤ n ∧ i = .int .i64 k ∧ s = .int .i64 (befTo cs y k) ∧ Below w.heap.size w wr ∧ Box2 wr w.heap.size (.int .i64 x) (.int .i64 y)) (fun _ i _ => n - (intOf i).toNat)
  case atStart => exact ⟨0, Nat.zero_le _, rfl, rfl, (by repeat (first | exact Below.refl _ _ | assumption | refine Below.alloc ?_ (by first | exact Nat.le_refl _ | (simp only [World.size_alloc, World.size_setCell, World.size_drew]; omega) | omega) _ | refine Below.setCell ?_ (by first | exact Nat.le_refl _ | (simp only [World.size_alloc, World.size_setCell, World.size_drew]; omega) | omega) _ | refine Below.drew ?_)), Box2.new w _ _ _⟩
  case round =>
    obtain ⟨k, hk, rfl, rfl, hb, hB⟩ := hrel
    have ⟨zB, cB, dB⟩ := hB
    have hzr := hb.size
    by_cases hlt : k < n
    · obtain ⟨b, off, rfl, hbl, hc1, hc2⟩ := (hx.below hb).pair HL.out hlt
      have hbs := befTo_small cs y (k := k) (by omega)
      have hor := Lib.hid (or_bit (b := befTo cs y k) (k := k) (by omega) (by omega))
      clear hbs
      by_cases hlt2 : y < lft cs k
      · have HS : Hid (befTo cs y (k+1) = befTo cs y k ||| 2 ^ k) := by rw [Hid, befTo, if_pos hlt2]
        have hd : decide (y < lft cs k) = true := by simp [hlt2]
        clear hlt2
        go_wp2_with fail
        refine (isBefore_any _ _ _ _ _).mono ?_
        rw [hd]
        rintro e w2 ⟨rfl, hb2⟩
        have ht2 : Below wr.heap.size wr w2 := Below.trans (by repeat (first | exact Below.refl _ _ | assumption | refine Below.alloc ?_ (by first | exact Nat.le_refl _ | (simp only [World.size_alloc, World.size_setCell, World.size_drew]; omega) | omega) _ | refine Below.setCell ?_ (by first | exact Nat.le_refl _ | (simp only [World.size_alloc, World.size_setCell, World.size_drew]; omega) | omega) _ | refine Below.drew ?_)) (hb2.mono (by first | (simp only [World.size_alloc, World.size_setCell, World.size_drew]; omega) | omega))
        have bw2 := hb.trans (ht2.mono hb.size)
        have B2 := hB.below ht2
        clear hb2 cB dB hc1 hc2
        go_wp2_with fail
        go_roundw
        case rel => exact ⟨k + 1, by omega, by go_num, val_int (by rw [hor.out, HS.out]), bw2, B2⟩
        case measure => simp [intOf]; omega
      · have HS : Hid (befTo cs y (k+1) = befTo cs y k) := by rw [Hid, befTo, if_neg hlt2]
        have hd : decide (y < lft cs k) = false := by simp; omega
        clear hlt2
        go_wp2_with fail
        refine (isBefore_any _ _ _ _ _).mono ?_
        rw [hd]
        rintro e w2 ⟨rfl, hb2⟩
        have ht2 : Below wr.heap.size wr w2 := Below.trans (by repeat (first | exact Below.refl _ _ | assumption | refine Below.alloc ?_ (by first | exact Nat.le_refl _ | (simp only [World.size_alloc, World.size_setCell, World.size_drew]; omega) | omega) _ | refine Below.setCell ?_ (by first | exact Nat.le_refl _ | (simp only [World.size_alloc, World.size_setCell, World.size_drew]; omega) | omega) _ | refine Below.drew ?_)) (hb2.mono (by first | (simp only [World.size_alloc, World.size_setCell, World.size_drew]; omega) | omega))
        have bw2 := hb.trans (ht2.mono hb.size)
        have B2 := hB.below ht2
        clear hb2 cB dB hc1 hc2
        go_wp2_with fail
        go_roundw
        case rel => exact ⟨k + 1, by omega, by go_num, val_int (by rw [HS.out]), bw2, B2⟩
        case measure => simp [intOf]; omega
    · obtain rfl : k = n := by omega
      go_wp2_with fail
      go_ret
      exact ⟨rfl, hb⟩

theorem iOrderOfIv_any (a : Option Addr) (cs : List Int) (n cap : Nat) (w : World) (hx : Rd w a cs) (hl : cs.length = n * 2) (hn : n ≤ 1048576) :
    Calls Try.prog 95 #[.slice a n cap] w (GotO w (ooN cs n) (ooL cs n) (goodV cs n)) := by
  obtain ⟨i0, hi, hz0, hz1, hz2⟩ := info_parts infoInt
  have HL := Lib.hid hl
  clear hl
  have hx1 := hx.alloc (.cells #[.int .i64 0, .slice none 0 0] 26)
  cases hg : goodV cs n
  · have H1 : Hid (ooN cs n = 0) := by simp [Hid, ooN, hg]
    have H2 : Hid (ooL cs n = []) := by simp [Hid, ooL, hg]
    have HG := Lib.hid hg
    clear hg
    go_enter Try.func95, Try.ntmps95
    go_wp2_with fail
    refine (iAreIntervals_any _ _ _ _ _ hx1 HL.out hn).mono ?_
    rw [HG.out]
    rintro e w1 ⟨rfl, hb1⟩
    have R1 : Var2 w1 w.heap.size (.int .i64 0) (.slice none 0 0) := (Var2.new w _ _ _).below hb1
    have ⟨⟨zR, cR, dR⟩, fR, gR⟩ := R1
    have bw1 : Below w.heap.size w w1 := Below.trans (by repeat (first | exact Below.refl _ _ | assumption | refine Below.alloc ?_ (by first | exact Nat.le_refl _ | (simp only [World.size_alloc, World.size_setCell, World.size_drew]; omega) | omega) _ | refine Below.setCell ?_ (by first | exact Nat.le_refl _ | (simp only [World.size_alloc, World.size_setCell, World.size_drew]; omega) | omega) _ | refine Below.drew ?_)) (hb1.mono (by first | (simp only [World.size_alloc, World.size_setCell, World.size_drew]; omega) | omega))
    clear hb1
    go_wp2_with fail
    have R3 := R1.set (.int .i64 0) (.slice none 0 0)
    refine bodyPost_ret (v := .tuple #[.agg #[.int .i64 0, .slice none 0 0], .bool false]) (by have ⟨⟨_, q1, q2⟩, _, _⟩ := R3; simp [results, Try.results95, go_sem, q1, q2]) rfl ?_
    refine ⟨none, 0, ?_, ?_, ?_⟩
    · rw [H1.out, H2.out]; rfl
    · rw [H2.out]; exact OwnI.nil _ _
    · exact (bw1.setCell (by simp) _).setCell (by simp) _
  · have ⟨hn10, hbd⟩ := goodV_iff.1 hg
    have H1 : Hid (ooN cs n = (n : Int)) := by simp [Hid, ooN, hg]
    have H2 : Hid (ooL cs n = ivo cs n n) := by simp [Hid, ooL, hg]
    have HG := Lib.hid hg
    clear hg hbd
    go_enter Try.func95, Try.ntmps95
    go_wp2_with fail
    refine (iAreIntervals_any _ _ _ _ _ hx1 HL.out hn).mono ?_
    rw [HG.out]
    rintro e w1 ⟨rfl, hb1⟩
    have R1 : Var2 w1 w.heap.size (.int .i64 0) (.slice none 0 0) := (Var2.new w _ _ _).below hb1
    have bw1 : Below w.heap.size w w1 := Below.trans (by repeat (first | exact Below.refl _ _ | assumption | refine Below.alloc ?_ (by first | exact Nat.le_refl _ | (simp only [World.size_alloc, World.size_setCell, World.size_drew]; omega) | omega) _ | refine Below.setCell ?_ (by first | exact Nat.le_refl _ | (simp only [World.size_alloc, World.size_setCell, World.size_drew]; omega) | omega) _ | refine Below.drew ?_)) (hb1.mono (by first | (simp only [World.size_alloc, World.size_setCell, World.size_drew]; omega) | omega))
    have hz1' : w.heap.size + 1 ≤ w1.heap.size := by have := R1.1.1; omega
    clear hb1
    go_wp2_with (at_make; refine wpList_make_full _ rfl (.tmp 12) (.tmp 12) 24 rfl (w.heap.size + 1) 3 i0 (.int .i64 0) 1 Try.underlying24 hi hz0 hz1 .i64 .i64 _ _ n rfl rfl rfl rfl (by rw [hz2]; omega) (by unfold maxLen; omega) hz1' ?_; intro w2 hown hgrow)
    have R2 := R1.kept hgrow (by simp)
    have hb2 : Below w.heap.size w w2 := bw1.grown hgrow bw1.size (fun k h => by cases h)
    have hown0 := made_row (ivE cs n) hown
    obtain ⟨g, hg⟩ : ∃ g, g = w1.heap.size := ⟨_, rfl⟩
    rw [← hg] at hown0 ⊢
    have hgz : w.heap.size + 1 ≤ g := by omega
    clear hown hgrow R1 hg
    go_wp2_with fail
    go_loopw [16] (fun i wr => ∃ k : Nat, k ≤ n ∧ i = .int .i64 k ∧ OwnI wr (w.heap.size + 1) (.slice (some ⟨g, 0, none⟩) n n) (rowF (ivE cs n) n k) ∧ Below w.heap.size w wr ∧ Var2 wr w.heap.size (.int .i64 0) (.slice none 0 0)) (fun i _ => n - (intOf i).toNat)
    case atStart => exact ⟨0, Nat.zero_le _, rfl, hown0, hb2, R2⟩
    case round =>
      obtain ⟨k, hk, rfl, hown, hb, hR⟩ := hrel
      have hzr := hb.size
      by_cases hlt : k < n
      · obtain ⟨b, off, rfl, hbl, hc1, hc2⟩ := (hx.below hb).pair HL.out hlt
        have k0 : (0 : Int) ≤ (k : Int) := by omega
        have k1 : (k : Int) < (n : Int) := by omega
        go_wp2_with fail
        refine (cmpBefore_any _ _ _ _ _ _ _ ((hx.below hb).alloc _) HL.out hn10).mono ?_
        rintro e w3 ⟨rfl, hb3⟩
        have ht3 : Below wr.heap.size wr w3 := Below.trans (by repeat (first | exact Below.refl _ _ | assumption | refine Below.alloc ?_ (by first | exact Nat.le_refl _ | (simp only [World.size_alloc, World.size_setCell, World.size_drew]; omega) | omega) _ | refine Below.setCell ?_ (by first | exact Nat.le_refl _ | (simp only [World.size_alloc, World.size_setCell, World.size_drew]; omega) | omega) _ | refine Below.drew ?_)) (hb3.mono (by first | (simp only [World.size_alloc, World.size_setCell, World.size_drew]; omega) | omega))
        have o3 := hown.below ht3 (Nat.le_refl _)
        have bw3 := hb.trans (ht3.mono hb.size)
        have R3 := hR.below ht3
        have hrl := rowF_len (ivE cs n) hk
        have ⟨ci, fi⟩ := o3.at' hrl.symm (i := k) (by omega)
        have hput := o3.put hrl.symm k (ivE cs n k)
        rw [rowF_set _ hlt] at hput
        have HP := Lib.hid hput.1
        have R4 := R3.kept hput.2 (by simp; omega)
        have bw4 := bw3.setCell (p := ⟨g, k, none⟩) (show w.heap.size ≤ g by omega) (.int .i64 (ivE cs n k))
        have HE : Hid (((befTo cs (rgt cs k) n : Nat) : Int) = ivE cs n k) := rfl
        rw [HE.out]
        clear hput hrl hown o3 hb3 hc1 hc2 R3
        go_wp2_with fail
        go_roundw
        case rel => exact ⟨k + 1, by omega, by go_num, HP.out, bw4, R4⟩
        case measure => simp [intOf]; omega
      · obtain rfl : k = n := by omega
        rw [rowF_end] at hown
        have ho : OwnI wr (w.heap.size + 1) (.slice (some ⟨g, 0, none⟩) k k) (ivo cs k k) := hown
        have ⟨⟨zR, cR, dR⟩, fR, gR⟩ := hR
        clear hown
        go_wp2_with fail
        have R3 := hR.set (.int .i64 (k : Int)) (.slice (some ⟨g, 0, none⟩) k k)
        refine bodyPost_ret (v := .tuple #[.agg #[.int .i64 (k : Int), .slice (some ⟨g, 0, none⟩) k k], .bool true]) (by have ⟨⟨_, q1, q2⟩, _, _⟩ := R3; simp [results, Try.results95, go_sem, q1, q2]) rfl ?_
        refine ⟨some ⟨g, 0, none⟩, k, ?_, ?_, ?_⟩
        · rw [H1.out, H2.out, ivo_len]
        · rw [H2.out, ivo_len]
          exact ((ho.setBelow (p := ⟨w.heap.size, 0, none⟩) (show w.heap.size < w.heap.size + 1 by omega) _).setBelow (p := ⟨w.heap.size, 1, none⟩) (show w.heap.size < w.heap.size + 1 by omega) _).mono (by omega)
        · exact (hb.setCell (p := ⟨w.heap.size, 0, none⟩) (Nat.le_refl _) _).setCell (p := ⟨w.heap.size, 1, none⟩) (Nat.le_refl _) _

theorem iDoRep_any (a : Option Addr) (cs : List Int) (n cap : Nat) (m : Int) (a1 : Option Addr) (ys : List Int) (cap1 : Nat) (w : World) (hx : Rd w a cs) (hl : cs.length = n * 2) (hn : n ≤ 1048576) (hm : -9223372036854775808 ≤ m ∧ m ≤ 9223372036854775807) (hy : Rd w a1 ys) :
    Calls Try.prog 51 #[.slice a n cap, .agg #[.int .i64 m, .slice a1 ys.length cap1]] w fun e w' => e = .returned (.tuple #[.bool (drB cs n m ys), .bool (drOk cs n m ys)]) ∧ Below w.heap.size w w' := by
  have HL := Lib.hid hl
  clear hl
  have hx1 := hx.alloc (.cells #[.int .i64 m, .slice a1 ys.length cap1] 26)
  cases hg : goodV cs n
  · have H0 : Hid (drOk cs n m ys = false) := by simp [Hid, drOk, hg]
    have H1 : Hid (drB cs n m ys = false) := by simp [Hid, drB, H0.out]
    have H2 : Hid (ooN cs n = 0) := by simp [Hid, ooN, hg]
    have H3 : Hid (ooL cs n = []) := by simp [Hid, ooL, hg]
    have HG := Lib.hid hg
    clear hg
    go_enter Try.func51, Try.ntmps51
    go_wp2_with fail
    refine (iOrderOfIv_any _ _ _ _ _ hx1 HL.out hn).mono ?_
    rw [HG.out, H2.out, H3.out]
    rintro e w1 ⟨p1, q1, rfl, ho1, hb1⟩
    have bw1 : Below w.heap.size w w1 := Below.trans (by repeat (first | exact Below.refl _ _ | assumption | refine Below.alloc ?_ (by first | exact Nat.le_refl _ | (simp only [World.size_alloc, World.size_setCell, World.size_drew]; omega) | omega) _ | refine Below.setCell ?_ (by first | exact Nat.le_refl _ | (simp only [World.size_alloc, World.size_setCell, World.size_drew]; omega) | omega) _ | refine Below.drew ?_)) (hb1.mono (by first | (simp only [World.size_alloc, World.size_setCell, World.size_drew]; omega) | omega))
    clear ho1
    go_wp2_with fail
    go_ret2
    exact ⟨ret_bb H1.out.symm H0.out.symm, bw1.alloc bw1.size _⟩
  · have H2 : Hid (ooN cs n = (n : Int)) := by simp [Hid, ooN, hg]
    have H3 : Hid (ooL cs n = ivo cs n n) := by simp [Hid, ooL, hg]
    have HG := Lib.hid hg
    cases hr : ordB m ys
    · have H0 : Hid (drOk cs n m ys = false) := by simp [Hid, drOk, hr]
      have H1 : Hid (drB cs n m ys = false) := by simp [Hid, drB, H0.out]
      have HR := Lib.hid hr
      clear hg hr
      go_enter Try.func51, Try.ntmps51
      go_wp2_with fail
      refine (iOrderOfIv_any _ _ _ _ _ hx1 HL.out hn).mono ?_
      rw [HG.out, H2.out, H3.out]
      unfold GotO
      rw [ivo_len]
      rintro e w1 ⟨p1, q1, rfl, ho1, hb1⟩
      have A1 : Box2 w1 w.heap.size (.int .i64 m) (.slice a1 ys.length cap1) := (Box2.new w _ _ _).below hb1
      have bw1 : Below w.heap.size w w1 := Below.trans (by repeat (first | exact Below.refl _ _ | assumption | refine Below.alloc ?_ (by first | exact Nat.le_refl _ | (simp only [World.size_alloc, World.size_setCell, World.size_drew]; omega) | omega) _ | refine Below.setCell ?_ (by first | exact Nat.le_refl _ | (simp only [World.size_alloc, World.size_setCell, World.size_drew]; omega) | omega) _ | refine Below.drew ?_)) (hb1.mono (by first | (simp only [World.size_alloc, World.size_setCell, World.size_drew]; omega) | omega))
      have ⟨zA, cA, dA⟩ := A1
      clear ho1 hb1
      go_wp2_with fail
      refine (iIsOrder_any _ _ _ _ _ hm ((hy.below bw1).alloc _)).mono ?_
      rw [HR.out]
      rintro e w2 ⟨rfl, hb2⟩
      have ht2 : Below w1.heap.size w1 w2 := Below.trans (by repeat (first | exact Below.refl _ _ | assumption | refine Below.alloc ?_ (by first | exact Nat.le_refl _ | (simp only [World.size_alloc, World.size_setCell, World.size_drew]; omega) | omega) _ | refine Below.setCell ?_ (by first | exact Nat.le_refl _ | (simp only [World.size_alloc, World.size_setCell, World.size_drew]; omega) | omega) _ | refine Below.drew ?_)) (hb2.mono (by first | (simp only [World.size_alloc, World.size_setCell, World.size_drew]; omega) | omega))
      go_wp2_with fail
      go_ret2
      exact ⟨ret_bb H1.out.symm H0.out.symm, bw1.trans (ht2.mono bw1.size)⟩
    · have H0 : Hid (drOk cs n m ys = true) := by simp [Hid, drOk, hg, hr]
      have H1 : Hid (drB cs n m ys = eqL (ivo cs n n) ys) := by simp [Hid, drB, H0.out]
      have HR := Lib.hid hr
      clear hg hr
      go_enter Try.func51, Try.ntmps51
      go_wp2_with fail
      refine (iOrderOfIv_any _ _ _ _ _ hx1 HL.out hn).mono ?_
      rw [HG.out, H2.out, H3.out]
      unfold GotO
      rw [ivo_len]
      rintro e w1 ⟨p1, q1, rfl, ho1, hb1⟩
      have A1 : Box2 w1 w.heap.size (.int .i64 m) (.slice a1 ys.length cap1) := (Box2.new w _ _ _).below hb1
      have bw1 : Below w.heap.size w w1 := Below.trans (by repeat (first | exact Below.refl _ _ | assumption | refine Below.alloc ?_ (by first | exact Nat.le_refl _ | (simp only [World.size_alloc, World.size_setCell, World.size_drew]; omega) | omega) _ | refine Below.setCell ?_ (by first | exact Nat.le_refl _ | (simp only [World.size_alloc, World.size_setCell, World.size_drew]; omega) | omega) _ | refine Below.drew ?_)) (hb1.mono (by first | (simp only [World.size_alloc, World.size_setCell, World.size_drew]; omega) | omega))
      have ⟨zA, cA, dA⟩ := A1
      have hr1 : Rd w1 p1 (ivo cs n n) := ho1.rd
      clear ho1 hb1
      go_wp2_with fail
      refine (iIsOrder_any _ _ _ _ _ hm ((hy.below bw1).alloc _)).mono ?_
      rw [HR.out]
      rintro e w2 ⟨rfl, hb2⟩
      have B1 : Box2 w2 w1.heap.size (.int .i64 (n : Int)) (.slice p1 n q1) := (Box2.new w1 _ _ _).below hb2
      have ht2 : Below w1.heap.size w1 w2 := Below.trans (by repeat (first | exact Below.refl _ _ | assumption | refine Below.alloc ?_ (by first | exact Nat.le_refl _ | (simp only [World.size_alloc, World.size_setCell, World.size_drew]; omega) | omega) _ | refine Below.setCell ?_ (by first | exact Nat.le_refl _ | (simp only [World.size_alloc, World.size_setCell, World.size_drew]; omega) | omega) _ | refine Below.drew ?_)) (hb2.mono (by first | (simp only [World.size_alloc, World.size_setCell, World.size_drew]; omega) | omega))
      have A2 := A1.below ht2
      have bw2 := bw1.trans (ht2.mono bw1.size)
      have hr2 := hr1.below ht2
      have hy2 := hy.below bw2
      have ⟨zA2, cA2, dA2⟩ := A2
      have ⟨zB2, cB2, dB2⟩ := B1
      clear cA dA hb2
      go_wp2_with fail
      have hq := sliceEqual_any p1 a1 (ivo cs n n) ys q1 cap1 w2 hr2 hy2
      rw [ivo_len] at hq
      refine hq.mono ?_
      rintro e w3 ⟨rfl, hb3⟩
      clear hq
      go_wp2_with fail
      go_ret2
      exact ⟨ret_bb H1.out.symm H0.out.symm, bw2.trans (hb3.mono bw2.size)⟩

set_option maxRecDepth 100000 in
set_option maxHeartbeats 4000000 in
theorem walk (a0 : Option Addr) (n0 cap0 : Nat) (a1 : Option Addr) (n1 cap1 : Nat) (w : World) (hR0 : RdB w a0 n0) (hl0 : n0 ≤ 9223372036854775807) (hR1 : RdB w a1 n1) (hl1 : n1 ≤ 9223372036854775807) :
    Calls Try.prog 8 #[.slice a0 n0 cap0, .slice a1 n1 cap1] w fun e w' => e = .returned (.bool true) ∧ Below w.heap.size w w' := by
  go_enter Try.func8, Try.ntmps8
  go_wp2_with fail
  refine (big_any _ _ _ _ _ _ _ hl0 hl1).mono ?_
  rintro e w' ⟨he, rfl⟩
  rcases he with rfl | ⟨rfl, hb0, hb1⟩
  · go_wp2_with fail
    go_ret
    exact ⟨rfl, (by repeat (first | exact Below.refl _ _ | assumption | refine Below.alloc ?_ (by first | exact Nat.le_refl _ | (simp only [World.size_alloc, World.size_setCell, World.size_drew]; omega) | omega) _ | refine Below.setCell ?_ (by first | exact Nat.le_refl _ | (simp only [World.size_alloc, World.size_setCell, World.size_drew]; omega) | omega) _ | refine Below.drew ?_))⟩
  · go_wp2_with fail
    refine (drEnds_any _ _ _ _ hR0 hb0).mono ?_
    rintro e w1 ⟨n, a, cap, xs, rfl, ho, hl, hn0, hn1, hx, hb⟩
    have hnn : -9223372036854775808 ≤ n ∧ n ≤ 9223372036854775807 := by omega
    have HB := Lib.hid hb
    have HR := Lib.hid ho.rd
    clear hx ho hb hR0 hR1 hl0 hl1 hb0 hb1
    obtain ⟨T, hT⟩ : ∃ T, T = endN n xs := ⟨_, rfl⟩
    obtain ⟨cs, hcs⟩ : ∃ cs, cs = endL n xs := ⟨_, rfl⟩
    obtain ⟨I, hI⟩ : ∃ I, I = isIv n xs := ⟨_, rfl⟩
    have hcl : cs.length = T * 2 := by rw [hcs, hT]; exact endL_len n xs
    have hTl : T ≤ 1048576 := by rw [hT]; exact endN_le
    have HIE := Lib.hid (fun W (h : Rd W a xs) => iEnds_any n a xs cap W hnn h)
    have HSE := Lib.hid (fun W (h : Rd W a xs) => sEnds_any n a xs cap W hnn h)
    unfold GotV at HIE HSE
    rw [← hT, ← hcs, ← hI] at HIE HSE
    have HT := Lib.hid hT
    have HCS := Lib.hid hcs
    have HI := Lib.hid hI
    have HCL := Lib.hid hcl
    have q1 : (I != I) = false := by simp
    clear hT hcs hI hcl
    have ba1 : Below w1.heap.size w1 (w1.alloc (.cells #[.int .i64 n, .slice a xs.length cap] 26)) := (Below.refl _ _).alloc (Nat.le_refl _) _
    have HA := Lib.hid (Box2.new w1 (.int .i64 n) (.slice a xs.length cap) 26)
    replace HB := Lib.hid (HB.out.trans (ba1.mono HB.out.size))
    replace HR := Lib.hid (HR.out.below ba1)
    obtain ⟨v1, hv1⟩ : ∃ x : World, x = w1.alloc (.cells #[.int .i64 n, .slice a xs.length cap] 26) := ⟨_, rfl⟩
    have HV1 := Lib.hid hv1
    rw [← hv1] at HA HB HR
    clear ba1 hv1
    have cA := HA.out.2
    go_wp2_with fail
    rw [← HV1.out]
    clear cA
    have ⟨zA, cA, dA⟩ := HA.out
    refine (HIE.out _ HR.out).mono ?_
    rintro e w3 ⟨a3, c3, rfl, ho3, hb3⟩
    try clear zA cA dA
    replace HB := Lib.hid (HB.out.trans (hb3.mono HB.out.size))
    replace HA := Lib.hid (HA.out.below hb3)
    replace HR := Lib.hid (HR.out.below hb3)
    have ⟨zA, cA, dA⟩ := HA.out
    clear hb3
    have HC := Lib.hid (ho3.rd hTl)
    clear ho3
    go_wp2_with fail
    refine (HSE.out _ HR.out).mono ?_
    rintro e w4 ⟨a4, c4, rfl, ho4, hb4⟩
    try clear zA cA dA
    replace HB := Lib.hid (HB.out.trans (hb4.mono HB.out.size))
    replace HA := Lib.hid (HA.out.below hb4)
    replace HR := Lib.hid (HR.out.below hb4)
    replace HC := Lib.hid (HC.out.below hb4)
    have ⟨zA, cA, dA⟩ := HA.out
    clear hb4
    have HD := Lib.hid (ho4.rd hTl)
    clear ho4 HIE HSE
    go_wp2_with fail
    refine ((pSameV_same a3 a4 cs T c3 c4 _ HC.out HD.out HCL.out hTl)).mono ?_
    rintro e w5 ⟨rfl, hb5⟩
    try clear zA cA dA
    replace HB := Lib.hid (HB.out.trans (hb5.mono HB.out.size))
    replace HA := Lib.hid (HA.out.below hb5)
    replace HR := Lib.hid (HR.out.below hb5)
    replace HC := Lib.hid (HC.out.below hb5)
    replace HD := Lib.hid (HD.out.below hb5)
    have ⟨zA, cA, dA⟩ := HA.out
    clear hb5
    clear HD
    cases hII : I
    · go_wp2_with fail
      go_ret
      exact ⟨rfl, HB.out⟩
    · have hiv : isIv n xs = true := by rw [← HI.out]; exact hII
      have hor := isIv_ord hiv
      have hr := (ordB_iff.1 hor).1
      have hp := relB_p hr
      obtain rfl : n = (xs.length : Int) := hp.len.symm
      have e1 : T = xs.length := by rw [HT.out, endN, if_pos hiv]
      have e2 : cs = endp xs xs.length := by rw [HCS.out, endL, if_pos hiv]
      subst e1
      have hx10 : xs.length ≤ 10 := hl
      have hbl := belows_len xs xs.length
      obtain ⟨ys, hys⟩ : ∃ ys, ys = belows xs xs.length := ⟨_, rfl⟩
      have hmr : isIv (xs.length : Int) ys = true := by rw [hys]; exact isIv_mir hiv
      have hmn : mirN (xs.length : Int) xs = (xs.length : Int) := by simp [mirN, hr]
      have hml : mirL (xs.length : Int) xs = ys := by rw [hys]; simp [mirL, hr]
      have hyl : ys.length = xs.length := by rw [hys]; exact hbl
      have hd := mir_lv hiv
      rw [← hys] at hd
      obtain ⟨D, hD⟩ : ∃ D, D = (sets xs).length := ⟨_, rfl⟩
      rw [← hD] at hd
      have hend := fun (k : Nat) (hk : k < xs.length) => ends_in hiv hk
      have hd2 := fun (k : Nat) (hk : k < xs.length) => (mir_rt hiv hk)
      rw [← hys, ← hD] at hd2
      rw [← hD] at hend
      have hDl : D ≤ 10 := by have := sets_len xs; omega
      have hgd := ends_good hiv
      have hrep := mir_rep hiv
      rw [← hys] at hrep
      have HM : Hid (∀ W, Rd W a xs → Calls Try.prog 12 #[.agg #[.int .i64 (xs.length : Int), .slice a xs.length cap]] W fun e w' => ∃ a' c', e = .returned (.tuple #[.agg #[.int .i64 (xs.length : Int), .slice a' xs.length c'], .bool true]) ∧ OwnI w' W.heap.size (.slice a' xs.length c') ys ∧ Below W.heap.size W w') := fun W h => by
        have := iMirrorOf_any (xs.length : Int) a xs cap W hnn h
        unfold GotO at this
        rw [hmn, hml, hr, hyl] at this
        exact this
      have HE2 : Hid (∀ W a' c', Rd W a' ys → Calls Try.prog 43 #[.agg #[.int .i64 (xs.length : Int), .slice a' xs.length c']] W fun e w' => ∃ a'' c'', e = .returned (.tuple #[.slice a'' xs.length c'', .bool true]) ∧ OwnV w' W.heap.size (.slice a'' xs.length c'') xs.length (endp ys xs.length) ∧ Below W.heap.size W w') := fun W a' c' h => by
        have := iEnds_any (xs.length : Int) a' ys c' W hnn h
        unfold GotV at this
        rw [endN, endL, hmr, if_pos rfl, if_pos rfl, hyl] at this
        exact this
      have HG : Hid (∀ W, Rd W a xs → Calls Try.prog 44 #[.agg #[.int .i64 (xs.length : Int), .slice a xs.length cap]] W fun e w' => e = .returned (.tuple #[.int .i64 (D : Int), .bool true]) ∧ Below W.heap.size W w') := fun W h => by
        have := iMagnitude_any (xs.length : Int) a xs cap W hnn h
        rw [magF, hiv, if_pos rfl, ← hD] at this
        exact this
      have HG2 : Hid (∀ W a' c', Rd W a' ys → Calls Try.prog 44 #[.agg #[.int .i64 (xs.length : Int), .slice a' xs.length c']] W fun e w' => e = .returned (.tuple #[.int .i64 (D : Int), .bool true]) ∧ Below W.heap.size W w') := fun W a' c' h => by
        have := iMagnitude_any (xs.length : Int) a' ys c' W hnn h
        rw [magF, hmr, if_pos rfl, hd.1, hyl] at this
        exact this
      have HLV : Hid (∀ W, Rd W a xs → Calls Try.prog 42 #[.agg #[.int .i64 (xs.length : Int), .slice a xs.length cap]] W fun e w' => ∃ a' c', e = .returned (.tuple #[.slice a' xs.length c', .bool true]) ∧ OwnI w' W.heap.size (.slice a' xs.length c') (levs xs xs.length) ∧ Below W.heap.size W w') := fun W h => by
        have := iLevels_any (xs.length : Int) a xs cap W hnn h
        rw [levL, hiv, if_pos rfl, levs_len] at this
        exact this
      have HMI : Hid (∀ W a', Rd W a' cs → ∀ c', Calls Try.prog 50 #[.slice a' xs.length c'] W fun e w' => ∃ a'' c'', e = .returned (.tuple #[.slice a'' xs.length c'', .bool true]) ∧ OwnV w' W.heap.size (.slice a'' xs.length c'') xs.length (mirVp cs xs.length) ∧ Below W.heap.size W w') := fun W a' h c' => by
        have := iMirrorIv_any a' cs xs.length c' W h HCL.out (by omega)
        unfold GotV at this
        rw [mirVN, mirVL, e2, hgd, if_pos rfl, if_pos rfl] at this
        rw [e2]
        exact this
      have hdb := mir_drB hiv
      rw [← e2, ← hys] at hdb
      obtain ⟨vs, hvs⟩ : ∃ vs, vs = mirVp cs xs.length := ⟨_, rfl⟩
      rw [← hvs] at hdb HMI
      have hvl : vs.length = xs.length * 2 := by rw [hvs]; exact prs_len _ _ _
      have HDR : Hid (∀ W a' c' b' d', Rd W a' vs → Rd W b' ys → Calls Try.prog 51 #[.slice a' xs.length c', .agg #[.int .i64 (xs.length : Int), .slice b' xs.length d']] W fun e w' => e = .returned (.tuple #[.bool true, .bool true]) ∧ Below W.heap.size W w') := fun W a' c' b' d' h h2 => by
        have := iDoRep_any a' vs xs.length c' (xs.length : Int) b' ys d' W h hvl (by omega) hnn h2
        rw [hdb.1, hdb.2, hyl] at this
        exact this
      have HPR : Hid (∀ k, k < xs.length → ∃ l r p q : Int, lft cs k = l ∧ rgt cs k = r ∧ lft (endp ys xs.length) k = p ∧ rgt (endp ys xs.length) k = q ∧ nth (levs xs xs.length) k = l ∧ IntKind.i64.wrap ((D : Int) - 1 - r) = p ∧ IntKind.i64.wrap ((D : Int) - 1 - l) = q) := fun k hk => by
        have h1 := hend k hk
        refine ⟨lv xs k, rtE xs k, lv ys k, rtE ys k, by rw [e2, endp, prs_lft _ _ hk], by rw [e2, endp, prs_rgt _ _ hk], by rw [endp, prs_lft _ _ hk], by rw [endp, prs_rgt _ _ hk], levs_nth xs hk, ?_, ?_⟩
        · rw [wrap64_small _ (by omega) (by omega), hd.2 k hk]
        · rw [wrap64_small _ (by omega) (by omega), hd2 k hk]
      have HYL := Lib.hid hyl
      have HVL := Lib.hid hvl
      have hw0 : IntKind.i64.wrap ((D : Int) - 1) = (D : Int) - 1 := wrap64_small _ (by omega) (by omega)
      have HEL : Hid ((endp ys xs.length).length = xs.length * 2) := prs_len _ _ _
      generalize endp ys xs.length = es at HE2 HPR HEL
      have HLL : Hid ((levs xs xs.length).length = xs.length) := levs_len _ _
      generalize levs xs xs.length = ls at HLV HPR HLL
      have hdd : ((D : Int) != (D : Int)) = false := by simp
      have hxx : ((xs.length : Int) != (xs.length : Int)) = false := by simp
      clear hdb hvl hrep hgd hend hd2 hd hD hmr hmn hml hyl hys hbl hiv hor hr hp e2 HCS HT HI hII hvs
      go_wp2_with fail
      refine (HM.out _ HR.out).mono ?_
      rintro e w6 ⟨a6, c6, rfl, ho6, hb6⟩
      try clear zA cA dA
      replace HB := Lib.hid (HB.out.trans (hb6.mono HB.out.size))
      replace HA := Lib.hid (HA.out.below hb6)
      replace HR := Lib.hid (HR.out.below hb6)
      replace HC := Lib.hid (HC.out.below hb6)
      have ⟨zA, cA, dA⟩ := HA.out
      clear hb6
      have HY := Lib.hid ho6.rd
      clear ho6
      have ba6 : Below w6.heap.size w6 (w6.alloc (.cells #[.int .i64 (xs.length : Int), .slice a6 xs.length c6] 26)) := (Below.refl _ _).alloc (Nat.le_refl _) _
      have HM := Lib.hid (Box2.new w6 (.int .i64 (xs.length : Int)) (.slice a6 xs.length c6) 26)
      replace HB := Lib.hid (HB.out.trans (ba6.mono HB.out.size))
      replace HA := Lib.hid (HA.out.below ba6)
      replace HR := Lib.hid (HR.out.below ba6)
      replace HC := Lib.hid (HC.out.below ba6)
      replace HY := Lib.hid (HY.out.below ba6)
      obtain ⟨v6, hv6⟩ : ∃ x : World, x = w6.alloc (.cells #[.int .i64 (xs.length : Int), .slice a6 xs.length c6] 26) := ⟨_, rfl⟩
      have HV6 := Lib.hid hv6
      rw [← hv6] at HM HB HA HR HC HY
      clear ba6 hv6
      have cM := HM.out.2
      go_wp2_with fail
      rw [← HV6.out]
      try clear zA cA dA
      clear cM
      have ⟨zA, cA, dA⟩ := HA.out
      have ⟨zM, cM, dM⟩ := HM.out
      refine (HE2.out _ a6 c6 HY.out).mono ?_
      rintro e w7 ⟨a7, c7, rfl, ho7, hb7⟩
      try clear zA cA dA
      try clear zM cM dM
      replace HB := Lib.hid (HB.out.trans (hb7.mono HB.out.size))
      replace HA := Lib.hid (HA.out.below hb7)
      replace HM := Lib.hid (HM.out.below hb7)
      replace HR := Lib.hid (HR.out.below hb7)
      replace HC := Lib.hid (HC.out.below hb7)
      replace HY := Lib.hid (HY.out.below hb7)
      have ⟨zA, cA, dA⟩ := HA.out
      have ⟨zM, cM, dM⟩ := HM.out
      clear hb7
      have HE := Lib.hid (ho7.rd (by omega))
      clear ho7
      go_wp2_with fail
      refine (HG.out _ HR.out).mono ?_
      rintro e w8 ⟨rfl, hb8⟩
      try clear zA cA dA
      try clear zM cM dM
      replace HB := Lib.hid (HB.out.trans (hb8.mono HB.out.size))
      replace HA := Lib.hid (HA.out.below hb8)
      replace HM := Lib.hid (HM.out.below hb8)
      replace HR := Lib.hid (HR.out.below hb8)
      replace HC := Lib.hid (HC.out.below hb8)
      replace HY := Lib.hid (HY.out.below hb8)
      replace HE := Lib.hid (HE.out.below hb8)
      have ⟨zA, cA, dA⟩ := HA.out
      have ⟨zM, cM, dM⟩ := HM.out
      clear hb8
      go_wp2_with fail
      refine (HG2.out _ a6 c6 HY.out).mono ?_
      rintro e w9 ⟨rfl, hb9⟩
      try clear zA cA dA
      try clear zM cM dM
      replace HB := Lib.hid (HB.out.trans (hb9.mono HB.out.size))
      replace HA := Lib.hid (HA.out.below hb9)
      replace HM := Lib.hid (HM.out.below hb9)
      replace HR := Lib.hid (HR.out.below hb9)
      replace HC := Lib.hid (HC.out.below hb9)
      replace HY := Lib.hid (HY.out.below hb9)
      replace HE := Lib.hid (HE.out.below hb9)
      have ⟨zA, cA, dA⟩ := HA.out
      have ⟨zM, cM, dM⟩ := HM.out
      clear hb9
      go_wp2_with fail
      refine (HLV.out _ HR.out).mono ?_
      rintro e w10 ⟨a10, c10, rfl, ho10, hb10⟩
      try clear zA cA dA
      try clear zM cM dM
      replace HB := Lib.hid (HB.out.trans (hb10.mono HB.out.size))
      replace HA := Lib.hid (HA.out.below hb10)
      replace HM := Lib.hid (HM.out.below hb10)
      replace HR := Lib.hid (HR.out.below hb10)
      replace HC := Lib.hid (HC.out.below hb10)
      replace HY := Lib.hid (HY.out.below hb10)
      replace HE := Lib.hid (HE.out.below hb10)
      have ⟨zA, cA, dA⟩ := HA.out
      have ⟨zM, cM, dM⟩ := HM.out
      clear hb10
      have HL := Lib.hid ho10.rd
      clear ho10
      go_wp2_with fail
      go_loopw [109] (fun i wr => ∃ k : Nat, k ≤ xs.length ∧ i = .int .i64 k ∧ Below w10.heap.size w10 wr) (fun i _ => xs.length - (intOf i).toNat)
      case atStart => exact ⟨0, Nat.zero_le _, rfl, Below.refl _ _⟩
      case round =>
        obtain ⟨k, hk, rfl, hb⟩ := hrel
        by_cases hlt : k < xs.length
        · have k1 : (k : Int) < (xs.length : Int) := by omega
          obtain ⟨l, r, p, q, g1, g2, g3, g4, g5, g6, g7⟩ := HPR.out k hlt
          have HT9 := Lib.hid hb
          obtain ⟨b1, o1, rfl, hb1, hc1, hc2⟩ := (HC.out.below hb).pair HCL.out hlt
          obtain ⟨b2, o2, rfl, hb2, hc3, hc4⟩ := (HE.out.below hb).pair HEL.out hlt
          obtain ⟨b3, o3, rfl, hb3, hc5⟩ := (HL.out.below hb).cell k (by rw [HLL.out]; exact hlt)
          rw [g1] at hc1
          rw [g2] at hc2
          rw [g3] at hc3
          rw [g4] at hc4
          rw [g5] at hc5
          have p1 : (p != p) = false := by simp
          have p2 : (q != q) = false := by simp
          have p3 : (l != l) = false := by simp
          clear hb g1 g2 g3 g4 g5
          go_wp2_with fail
          go_quiet (fail)
          go_wp2_with fail
          go_roundw
          case rel => exact ⟨k + 1, by omega, by go_num, (HT9.out.alloc HT9.out.size _).trans (Joins.below_draws _ _ _)⟩
          case measure => simp [intOf]; omega
        · obtain rfl : k = xs.length := by omega
          replace HB := Lib.hid (HB.out.trans (hb.mono HB.out.size))
          replace HM := Lib.hid (HM.out.below hb)
          replace HC := Lib.hid (HC.out.below hb)
          replace HY := Lib.hid (HY.out.below hb)
          clear hb
          try clear zM cM dM
          have ⟨zM, cM, dM⟩ := HM.out
          go_wp2_with fail
          refine (HMI.out _ a3 HC.out c3).mono ?_
          rintro e w12 ⟨a12, c12, rfl, ho12, hb12⟩
          try clear zM cM dM
          replace HB := Lib.hid (HB.out.trans (hb12.mono HB.out.size))
          replace HM := Lib.hid (HM.out.below hb12)
          replace HC := Lib.hid (HC.out.below hb12)
          replace HY := Lib.hid (HY.out.below hb12)
          have ⟨zM, cM, dM⟩ := HM.out
          clear hb12
          have HV := Lib.hid (ho12.rd (by omega))
          clear ho12
          go_wp2_with fail
          refine (HDR.out _ a12 c12 a6 c6 HV.out HY.out).mono ?_
          rintro e w13 ⟨rfl, hb13⟩
          try clear zM cM dM
          replace HB := Lib.hid (HB.out.trans (hb13.mono HB.out.size))
          replace HM := Lib.hid (HM.out.below hb13)
          replace HY := Lib.hid (HY.out.below hb13)
          replace HV := Lib.hid (HV.out.below hb13)
          have ⟨zM, cM, dM⟩ := HM.out
          clear hb13
          go_wp2_with fail
          go_ret
          exact ⟨rfl, HB.out⟩

theorem rd_of_trod {H : Type} {enc : TypeId × Value → H} {W : World} {fuel : Nat} {c : Value} {y : DataW H × List MemPlace}
    (h : DataW.trod enc Try.prog W 0 (fun _ => true) true fuel 24 [c] = some y) : ∃ (a : Option Addr) (xs : List Int) (cap : Nat), c = .slice a xs.length cap ∧ Rd W a xs ∧ ∀ k, k < xs.length → (Lit.int .i64 (nth xs k)).wf = true := by
  rcases Go.ChangeShapes.open_ints Try.underlying24 Try.underlying3 (by kernel_rfl) h with ⟨hcs, _⟩ | ⟨x, len, cap, zs, hcs, _, hl, hm, hz, _, hcell, hwf⟩
  · simp only [List.cons.injEq, and_true] at hcs
    exact ⟨none, [], 0, hcs, ⟨by simp, fun k hk => by simp at hk⟩, fun k hk => by simp at hk⟩
  · simp only [List.cons.injEq, and_true] at hcs
    simp only [if_true] at hz
    have hlen : (zs.take len).length = len := by rw [List.length_take]; omega
    have hn : ∀ k, k < len → nth (zs.take len) k = zs.getD k 0 := by
      intro k hk
      simp only [nth, List.getD_eq_getElem?_getD, List.getElem?_take, hk, if_true]
    refine ⟨some x, zs.take len, cap, by rw [hlen]; exact hcs, ⟨by rw [hlen]; unfold maxLen at hm; omega, fun k hk => ?_⟩, fun k hk => ?_⟩
    · rw [hlen] at hk
      obtain ⟨b, off, sp⟩ := x
      have h0 := hcell 0 (by omega)
      have hsp : sp = none := by simpa [Addr.add] using World.cell?_spot h0
      subst hsp
      have hk' := hcell k (by omega)
      rw [Addr.add_lit] at hk'
      exact ⟨b, off, rfl, World.block_lt_of_cell? _ _ h0, by rw [hk', hn k hk]⟩
    · rw [hlen] at hk
      rw [hn k hk]
      have hk2 : k < zs.length := by omega
      exact hwf _ (by rw [List.getD_eq_getElem?_getD, List.getElem?_eq_getElem hk2]; exact List.getElem_mem hk2)

theorem own : ownKnob Try.prog.godebug = none := by kernel_rfl
theorem laidOut : laidOutB Try.prog = true := by kernel_rfl
theorem wf_bd {n : Int} (h : (Lit.int .i64 n).wf = true) : -9223372036854775808 ≤ n ∧ n ≤ 9223372036854775807 := by
  simp [Lit.wf, IntKind.min, IntKind.max, IntKind.bits, IntKind.signed] at h
  omega

theorem wf_byte {n : Int} (h : (Lit.int .u8 n).wf = true) : 0 ≤ n ∧ n ≤ 255 := by
  simp [Lit.wf, IntKind.min, IntKind.max, IntKind.bits, IntKind.signed] at h
  omega
/-- a slice of bytes that was handed over -/
theorem rdB_of_trod {H : Type} {enc : TypeId × Value → H} {W : World} {fuel : Nat} {c : Value} {y : DataW H × List MemPlace}
    (h : DataW.trod enc Try.prog W 0 (fun _ => true) true fuel 22 [c] = some y) : ∃ (a : Option Addr) (n cap : Nat), c = .slice a n cap ∧ RdB W a n ∧ n ≤ 9223372036854775807 := by
  rcases Go.ChangeShapes.open_ints Try.underlying22 Try.underlying5 (by kernel_rfl) h with ⟨hcs, _⟩ | ⟨x, len, cap, zs, hcs, _, hl, hm, hz, _, hcell, hwf⟩
  · simp only [List.cons.injEq, and_true] at hcs
    exact ⟨none, 0, 0, hcs, ⟨fun k hk => by omega⟩, by omega⟩
  · simp only [List.cons.injEq, and_true] at hcs
    simp only [if_true] at hz
    refine ⟨some x, len, cap, hcs, ⟨fun k hk => ?_⟩, by unfold maxLen at hm; omega⟩
    obtain ⟨b, off, sp⟩ := x
    have h0 := hcell 0 (by omega)
    have hsp : sp = none := by simpa [Addr.add] using World.cell?_spot h0
    subst hsp
    have hk' := hcell k (by omega)
    rw [Addr.add_lit] at hk'
    have hk2 : k < zs.length := by omega
    have hw := hwf _ (show zs.getD k 0 ∈ zs by rw [List.getD_eq_getElem?_getD, List.getElem?_eq_getElem hk2]; exact List.getElem_mem hk2)
    refine ⟨b, off, rfl, World.block_lt_of_cell? _ _ h0, zs.getD k 0, hk', ?_⟩
    exact wf_byte hw

open Go.ChangeShapes Go.WideShapes Go.ChangeAt Go.RowKit in
set_option maxRecDepth 100000 in
theorem lifted (os : Os) (started : os.Started) (H : Type) (enc : TypeId × Value → H) :
    ReturnsInHanded {} Try.checked os 8 .any (Rows.fnMirroredEndsSpec.pre6 enc Try.prog Try.f8 Rows.fnMirroredEndsRow.domain false) (Rows.fnMirroredEndsSpec.post enc Try.prog Try.f8 false true false false) := by
  refine returnsInHanded_of_change (C := Try.checked) own started (by kernel_rfl) Try.func8
    (ChangeSpec.witness6 (enc := enc) (C := Try.checked) false ⟨#[], #[.slice none 0 0, .slice none 0 0], []⟩ 8 (by kernel_rfl) (by kernel_rfl) (by kernel_rfl) (by kernel_rfl)) ?_
  intro W base args ds gs before hval0 hW hcnd _
  have hval : ∀ (j : Nat) t v, Try.f8.params[j]? = some t → args[j]? = some v → Value.okWide Try.prog W .any base t v := hval0
  have hW' := hW
  obtain ⟨p, q, hA0, hV, rfl, hfz, hnd⟩ := hW
  have hA : DataW.TrodAll enc Try.prog W 0 (fun _ => true) true Try.f8.params.toList args.toList ds p := hA0
  rw [Try.params8] at hA hval
  obtain ⟨v0, vs0, d0, ds0, p0, q0, hargs, rfl, rfl, h0, r0⟩ := trodAll_cons hA
  obtain ⟨v1, vs1, d1, ds1, p1, q1, rfl, rfl, rfl, h1, r1⟩ := trodAll_cons r0
  obtain ⟨rfl, rfl, rfl⟩ := trodAll_nil r1
  obtain rfl : args = #[v0, v1] := by cases args; simp_all
  obtain ⟨rfl, rfl⟩ := trodVars_none hV
  have lt0 : ∀ x ∈ p0, x.block < W.heap.size := by obtain ⟨m, hm⟩ := h0; exact DataW.trod_lt m _ _ _ hm
  have lt1 : ∀ x ∈ p1, x.block < W.heap.size := by obtain ⟨m, hm⟩ := h1; exact DataW.trod_lt m _ _ _ hm
  obtain ⟨a0, len0, cap0, rfl⟩ := okWide_slice Try.underlying22 (hval 0 22 v0 rfl rfl)
  obtain ⟨a0, n0, cap0, e0, rd0, ln0⟩ := (by obtain ⟨fu, hf⟩ := h0; simp only [Value.cells] at hf; exact rdB_of_trod hf : ∃ (a : Option Addr) (n cap : Nat), Value.slice a0 len0 cap0 = .slice a n cap ∧ RdB W a n ∧ n ≤ 9223372036854775807)
  simp only [Value.slice.injEq] at e0
  obtain ⟨rfl, rfl, rfl⟩ := e0
  obtain ⟨a1, len1, cap1, rfl⟩ := okWide_slice Try.underlying22 (hval 1 22 v1 rfl rfl)
  obtain ⟨a1, n1, cap1, e1, rd1, ln1⟩ := (by obtain ⟨fu, hf⟩ := h1; simp only [Value.cells] at hf; exact rdB_of_trod hf : ∃ (a : Option Addr) (n cap : Nat), Value.slice a1 len1 cap1 = .slice a n cap ∧ RdB W a n ∧ n ≤ 9223372036854775807)
  simp only [Value.slice.injEq] at e1
  obtain ⟨rfl, rfl, rfl⟩ := e1
  clear hA0 hval0
  refine (walk a0 len0 cap0 a1 len1 cap1 W rd0 ln0 rd1 ln1).mono fun e W' ⟨he, bel⟩ => ?_
  subst he
  exact ⟨_, rfl, _, _, _, [], _, [], hW', trodAll_mk1 (shut_bool Try.underlying4 _), (trodAll_cons_mk (Below.trod laidOut (by kernel_rfl) (of_decide_eq_true (by kernel_rfl)) h0 bel lt0) (trodAll_cons_mk (Below.trod laidOut (by kernel_rfl) (of_decide_eq_true (by kernel_rfl)) h1 bel lt1) trodAll_mk0)), rfl, bel.frame _, fun h => by cases h⟩
theorem proved : Rows.FnMirroredEndsSaid :=
  OpenClaim.holds_of_wide 8 Try.f8 rfl rfl rfl rfl rfl rfl rfl ⟨rfl, rfl, rfl, rfl, rfl⟩ rfl rfl rfl rfl rfl (by kernel_rfl) Try.func8 (by kernel_rfl)
    (of_decide_eq_true (by kernel_rfl)) (by unfold Func.isWrapper; first | (rw [if_pos (by decide +kernel)]; kernel_rfl) | (rw [if_neg (by decide +kernel)]; exact ⟨rfl, rfl⟩))
    (fun os started H enc _ => lifted os started H enc)

end Go.Proofs.Ytjddjfckflgojaa.mirroredEnds
