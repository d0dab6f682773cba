/- PROVED: the law FnEndsAreLeast returns true for every input, and each of its arguments reads afterwards as before. No conditions. -/
import Derived.Test.YtdmhjmcljpladaaRows
import Derived.WalkKit
import Derived.WalkSpells
import Derived.WalkLawsBesides
import Derived.Deep.QuietTactic
import Derived.BigQuiet
import Derived.ProofKit
import Derived.OpenShut
import Derived.ShutString
import Derived.ChangeOld
import Derived.Below
import Derived.Lib.SmallJoins
import Derived.Lib.Hide
import Derived.Maps.AppendAt
import Derived.Deep.AppendLies
import Derived.Deep.RegionHeld3
import Derived.Deep.DeepCutAuto
import Derived.StillTail
import Derived.Shelf.Small.Bits
import Derived.Shelf.Small.Wraps
import Derived.Shelf.Strconv.Itoa0
import Derived.Shelf.Sort.Plain
import Derived.Shelf.Slices.Reverse
import Derived.Shelf.Slices.Equal
import Derived.Shelf.Slices.CompactI
import Derived.Shelf.Slices.Delete
import Derived.Shelf.Slices.Cells
import Derived.Shelf.Slices.In.SortNone
import Derived.Shelf.Slices.Empties2
import Derived.Sort.OwnSortedInts
import Derived.Lib.SlicesCompact
import Derived.Lib.RowBridge
import Derived.Test.YtdmhjmcljpladaaEndsAreLeastP2
namespace Go.Proofs.Ytdmhjmcljpladaa.endsAreLeast
open Go Go.RowKit
set_option linter.unusedVariables false
set_option linter.unusedSimpArgs false
set_option maxHeartbeats 400000
open Go.Shelf
/-- nothing refuses ahead of the list k, l, m, o -/
def NoRef (xs : List Int) (k l m o : Nat) : Prop :=
  (∀ a, a < k → find1 (pairF xs a) xs.length = none) ∧ (∀ b, b < l → pairF xs k b = none) ∧ (∀ c, c < m → find1 (refF xs k l c) xs.length = none) ∧ ∀ d, d < o → refF xs k l m d = none
theorem NoRef.d {xs : List Int} {k l m o : Nat} (h : NoRef xs k l m o) (h1 : refB xs k l m o = false) : NoRef xs k l m (o+1) :=
  ⟨h.1, h.2.1, h.2.2.1, fun d hd => by
    by_cases e : d = o
    · rw [e, refF, h1]; rfl
    · exact h.2.2.2 d (by omega)⟩
theorem NoRef.c {xs : List Int} {k l m : Nat} (h : NoRef xs k l m xs.length) : NoRef xs k l (m+1) 0 :=
  ⟨h.1, h.2.1, fun c hc => by
    by_cases e : c = m
    · rw [e]; exact find1_none h.2.2.2
    · exact h.2.2.1 c (by omega), fun d hd => by omega⟩
theorem NoRef.b {xs : List Int} {k l : Nat} (h : NoRef xs k l xs.length 0) : NoRef xs k (l+1) 0 0 :=
  ⟨h.1, fun b hb => by
    by_cases e : b = l
    · rw [e, pairF_ref]; exact find1_none h.2.2.1
    · exact h.2.1 b (by omega), fun c hc => by omega, fun d hd => by omega⟩
theorem NoRef.a {xs : List Int} {k : Nat} (h : NoRef xs k xs.length 0 0) : NoRef xs (k+1) 0 0 0 :=
  ⟨fun a ha => by
    by_cases e : a = k
    · rw [e]; exact find1_none h.2.1
    · exact h.1 a (by omega), fun b hb => by omega, fun c hc => by omega, fun d hd => by omega⟩
theorem NoRef.no {xs : List Int} {l m o : Nat} (h : NoRef xs xs.length l m o) : twoF xs = none := find1_none h.1
theorem NoRef.yes {xs : List Int} {k l m o : Nat} (h : NoRef xs k l m o) (hk : k < xs.length) (hl : l < xs.length) (hm : m < xs.length) (ho : o < xs.length) (h1 : refB xs k l m o = true) :
    twoF xs = some [(k : Int), (l : Int), (m : Int), (o : Int)] :=
  find1_some hk (find1_some hl (by rw [pairF_ref]; exact find1_some hm (find1_some ho (by rw [refF, h1]; rfl) h.2.2.2) h.2.2.1) h.2.1) h.1
theorem ivTwoTwo_any (n : Int) (a : Option Addr) (xs : List Int) (cap : Nat) (w : World) (hx : Rd w a xs) (hp : RelP n xs) :
    Calls Try.prog 157 #[.agg #[.int .i64 n, .slice a xs.length cap]] w fun e w' => ∃ a' cap', e = .returned (.tuple #[.slice a' ((twoF xs).getD []).length cap', .bool (twoF xs).isSome]) ∧ OwnI w' w.heap.size (.slice a' ((twoF xs).getD []).length cap') ((twoF xs).getD []) ∧ Below w.heap.size w w' := by
  have hl10 : xs.length ≤ 10 := by have := hp.len; have := hp.n1; omega
  obtain rfl : n = (xs.length : Int) := hp.len.symm
  go_enter Try.func157, Try.ntmps157
  go_wp2_with fail
  go_loopw [4] (fun i' wr => ∃ k : Nat, k ≤ xs.length ∧ i' = .int .i64 k ∧ NoRef xs k 0 0 0 ∧ Below w.heap.size w wr ∧ Box2 wr w.heap.size (.int .i64 (xs.length : Int)) (.slice a xs.length cap)) (fun i' _ => xs.length - (intOf i').toNat)
  case atStart => exact ⟨0, Nat.zero_le _, rfl, ⟨fun c hc => by omega, fun b hb => by omega, fun b hb => by omega, fun b hb => by omega⟩, (by repeat (first | exact Below.refl _ _ | assumption | refine Below.alloc ?_ (by first | exact Nat.le_refl _ | (simp only [World.size_alloc, World.size_setCell, World.size_drew]; omega) | omega) _ | refine Below.setCell ?_ (by first | exact Nat.le_refl _ | (simp only [World.size_alloc, World.size_setCell, World.size_drew]; omega) | omega) _ | refine Below.drew ?_)), Box2.new w _ _ _⟩
  case round =>
    obtain ⟨k, hk, rfl, hall, hb, hB⟩ := hrel
    obtain ⟨wo, rfl⟩ : ∃ wo : World, wo = wr := ⟨_, rfl⟩
    have ⟨zr, cr, dr⟩ := hB
    have HA := Lib.hid hall
    clear hall
    by_cases hlt : k < xs.length
    · have k1 : (k : Int) < (xs.length : Int) := by omega
      go_wp2_with fail
      clear cr dr
      go_loopw [5] (fun i' wr => ∃ l : Nat, l ≤ xs.length ∧ i' = .int .i64 l ∧ NoRef xs k l 0 0 ∧ Below w.heap.size w wr ∧ Box2 wr w.heap.size (.int .i64 (xs.length : Int)) (.slice a xs.length cap)) (fun i' _ => xs.length - (intOf i').toNat)
      case atStart => exact ⟨0, Nat.zero_le _, rfl, HA.out, hb, hB⟩
      case round =>
        clear hb hB
        obtain ⟨l, hl, rfl, hall, hb, hB⟩ := hrel
        obtain ⟨wp, rfl⟩ : ∃ wp : World, wp = wr := ⟨_, rfl⟩
        have ⟨zr, cr, dr⟩ := hB
        have HL := Lib.hid hall
        clear hall
        by_cases hlt2 : l < xs.length
        · have l1 : (l : Int) < (xs.length : Int) := by omega
          go_wp2_with fail
          clear cr dr
          go_loopw [6] (fun i' wr => ∃ m : Nat, m ≤ xs.length ∧ i' = .int .i64 m ∧ NoRef xs k l m 0 ∧ Below w.heap.size w wr ∧ Box2 wr w.heap.size (.int .i64 (xs.length : Int)) (.slice a xs.length cap)) (fun i' _ => xs.length - (intOf i').toNat)
          case atStart => exact ⟨0, Nat.zero_le _, rfl, HL.out, hb, hB⟩
          case round =>
            clear hb hB
            obtain ⟨m, hm, rfl, hall, hb, hB⟩ := hrel
            obtain ⟨wq, rfl⟩ : ∃ wq : World, wq = wr := ⟨_, rfl⟩
            have ⟨zr, cr, dr⟩ := hB
            have HM := Lib.hid hall
            clear hall
            by_cases hlt3 : m < xs.length
            · have m1 : (m : Int) < (xs.length : Int) := by omega
              go_wp2_with fail
              clear cr dr
              go_loopw [7] (fun i' wr => ∃ o : Nat, o ≤ xs.length ∧ i' = .int .i64 o ∧ NoRef xs k l m o ∧ Below w.heap.size w wr ∧ Box2 wr w.heap.size (.int .i64 (xs.length : Int)) (.slice a xs.length cap)) (fun i' _ => xs.length - (intOf i').toNat)
              case atStart => exact ⟨0, Nat.zero_le _, rfl, HM.out, hb, hB⟩
              case round =>
                clear hb hB
                obtain ⟨o, ho, rfl, hall, hb, hB⟩ := hrel
                have ⟨zr, cr, dr⟩ := hB
                have HO := Lib.hid hall
                clear hall
                by_cases hlt4 : o < xs.length
                · have o1 : (o : Int) < (xs.length : Int) := by omega
                  cases hs : refB xs k l m o
                  · have hfin := Lib.hid (HO.out.d hs)
                    have HS := Lib.hid hs
                    clear hs
                    go_wp2_with fail
                    refine (ivRefuses_any _ _ _ _ _ _ _ _ _ (hx.below hb) hp hlt hlt3).mono ?_
                    rw [HS.out]
                    rintro e w3 ⟨rfl, hb3⟩
                    have B3 := hB.below hb3
                    have bw3 := hb.trans (hb3.mono hb.size)
                    go_wp2_with fail
                    go_roundw
                    case rel => exact ⟨o + 1, by omega, by go_num, hfin.out, bw3, B3⟩
                    case measure => simp [intOf]; omega
                  · have ht := HO.out.yes hlt hlt2 hlt3 hlt4 hs
                    have HT := Lib.hid ht
                    have HS := Lib.hid hs
                    clear hs ht
                    go_wp2_with fail
                    refine (ivRefuses_any _ _ _ _ _ _ _ _ _ (hx.below hb) hp hlt hlt3).mono ?_
                    rw [HS.out]
                    rintro e w3 ⟨rfl, hb3⟩
                    have bw3 := hb.trans (hb3.mono hb.size)
                    go_wp2_with fail
                    refine bodyPost_ret (v := .tuple #[.slice (some ⟨w3.heap.size, 0, none⟩) 4 4, .bool true]) (by simp [results, Try.results157, go_sem]) rfl ?_
                    refine ⟨some ⟨w3.heap.size, 0, none⟩, 4, by rw [HT.out]; rfl, ?_, bw3.alloc bw3.size _⟩
                    rw [HT.out]
                    exact (OwnI.new w3 [(k : Int), (l : Int), (m : Int), (o : Int)] (by simp)).mono bw3.size
                · obtain rfl : o = xs.length := by omega
                  have hfin := Lib.hid HO.out.c
                  go_wp2_with fail
                  go_roundw
                  case rel => exact ⟨m + 1, by omega, by go_num, hfin.out, hb, hB⟩
                  case measure => simp [intOf]; omega
            · obtain rfl : m = xs.length := by omega
              have hfin := Lib.hid HM.out.b
              go_wp2_with fail
              go_roundw
              case rel => exact ⟨l + 1, by omega, by go_num, hfin.out, hb, hB⟩
              case measure => simp [intOf]; omega
        · obtain rfl : l = xs.length := by omega
          have hfin := Lib.hid HL.out.a
          go_wp2_with fail
          go_roundw
          case rel => exact ⟨k + 1, by omega, by go_num, hfin.out, hb, hB⟩
          case measure => simp [intOf]; omega
    · obtain rfl : k = xs.length := by omega
      have ht := HA.out.no
      have HT := Lib.hid ht
      clear ht
      go_wp2_with fail
      refine bodyPost_ret (v := .tuple #[.slice none 0 0, .bool false]) (by simp [results, Try.results157, go_sem]) rfl ?_
      exact ⟨none, 0, by rw [HT.out]; rfl, by rw [HT.out]; exact OwnI.nil _ _, hb⟩

theorem ivIs_any (n : Int) (a : Option Addr) (xs : List Int) (cap : Nat) (w : World) (hx : Rd w a xs) (hp : RelP n xs) :
    Calls Try.prog 116 #[.agg #[.int .i64 n, .slice a xs.length cap]] w fun e w' => e = .returned (.bool (!(twoF xs).isSome)) ∧ Below w.heap.size w w' := by
  have hx1 := hx.alloc (.cells #[.int .i64 n, .slice a xs.length cap] 28)
  go_enter Try.func116, Try.ntmps116
  go_wp2_with fail
  refine (ivTwoTwo_any _ _ _ _ _ hx1 hp).mono ?_
  rintro e w2 ⟨a2, cap2, rfl, ho2, hb2⟩
  clear ho2
  go_wp2_with fail
  go_ret
  exact ⟨ret_bool (by cases twoF xs <;> rfl), Below.trans (by repeat (first | exact Below.refl _ _ | assumption | refine Below.alloc ?_ (by first | exact Nat.le_refl _ | (simp only [World.size_alloc, World.size_setCell, World.size_drew]; omega) | omega) _ | refine Below.setCell ?_ (by first | exact Nat.le_refl _ | (simp only [World.size_alloc, World.size_setCell, World.size_drew]; omega) | omega) _ | refine Below.drew ?_)) (hb2.mono (by first | (simp only [World.size_alloc, World.size_setCell, World.size_drew]; omega) | omega))⟩

theorem orList_any (s : Int) (w : World) (h0 : 0 ≤ s) (h1 : s < 1024) :
    Calls Try.prog 156 #[.int .i64 s] w fun e w' => ∃ a cap, e = .returned (.slice a (elems s.toNat).length cap) ∧ OwnI w' w.heap.size (.slice a (elems s.toNat).length cap) (elems s.toNat) ∧ Below w.heap.size w w' := by
  obtain ⟨S, rfl⟩ := Int.eq_ofNat_of_zero_le h0
  have hS : S < 1024 := by omega
  obtain ⟨i0, hi, hz0, hz1, hz2⟩ := info_parts infoInt
  have hsh : ∀ k : Nat, (S : Int) / 2 ^ min k 64 = ((S >>> k : Nat) : Int) := fun k => shr_nat S k (by omega)
  have HSH := Lib.hid hsh
  clear hsh
  go_enter Try.func156, Try.ntmps156
  go_wp2_with fail
  go_loopw [3, 4] (fun v i wr => ∃ k : Nat, k ≤ 10 ∧ i = .int .i64 k ∧ wr.ownsRow w.heap.size 3 1 v (elemsTo S k).length ((elemsTo S k).map (Value.int .i64)) ∧ Below w.heap.size w wr) (fun _ i _ => 10 - (intOf i).toNat)
  case atStart => exact ⟨0, by omega, rfl, by simpa [elemsTo] using World.ownsRow_nil _ _ _ _, Below.refl _ _⟩
  case round =>
    obtain ⟨k, hk, rfl, hown, hb⟩ := hrel
    have hln := elemsTo_len S k
    have hsz := hb.size
    have hq := HSH.out k
    rw [show min k 64 = k from by omega] at hq
    by_cases hz : S >>> k = 0
    · have ht : ¬ (0 : Int) < (S : Int) / 2 ^ k := by rw [hq, hz]; omega
      have HZ := Lib.hid hz
      clear hq hz
      go_wp2_with fail
      go_ret
      have e := elems_at HZ.out hk
      rw [e] at hown
      obtain ⟨a, cap, rfl⟩ := OwnI.form hown
      exact ⟨a, cap, rfl, hown, hb⟩
    · have ht : (0 : Int) < (S : Int) / 2 ^ k := by rw [hq]; exact Int.natCast_pos.2 (Nat.pos_of_ne_zero hz)
      have hk9 : k < 10 := by
        rcases Nat.lt_or_ge k 10 with h | h
        · exact h
        · obtain rfl : k = 10 := by omega
          exact absurd (by rw [Nat.shiftRight_eq_div_pow]; exact Nat.div_eq_of_lt (by omega)) hz
      clear hq hz
      have hhas : hasB (S : Int) (k : Int) = S.testBit k := rfl
      cases hin : S.testBit k
      · rw [hin] at hhas
        go_wp2_with (go_at_call 118; refine (orHas_any _ _ _ (by omega) (by omega) (by omega)).mono ?_; rintro e w' ⟨rfl, rfl⟩)
        go_roundw
        case rel => exact ⟨k + 1, by omega, by go_num, by simpa [elemsTo, hin] using hown, hb⟩
        case measure => simp [intOf]; omega
      · rw [hin] at hhas
        go_wp2_with (first | (go_at_call 118; refine (orHas_any _ _ _ (by omega) (by omega) (by omega)).mono ?_; rintro e w' ⟨rfl, rfl⟩) | (at_builtin; refine wpList_append_own _ rfl _ _ 26 rfl w.heap.size 3 i0 (.int .i64 0) 1 8 Try.underlying26 hi hz0 hz1 hz2 rfl (by decide) _ _ _ rfl (hown.alloc _) ⟨wr.heap.size, 0, none⟩ 1 1 [.int .i64 k] rfl rfl ?c1 ?c2 ?c3 ?c4 ?c5 ?_))
        case c1 =>
          intro j u hj
          match j, hj with
          | 0, hj => simp at hj; subst hj; simp [Addr.add]
        case c2 => intro u hu; simp at hu; subst hu; rfl
        case c3 => unfold maxLen; omega
        case c4 => omega
        case c5 => simp; omega
        · intro v' w1 hown' hgrow _
          have hlt := World.ownsRow.lt hown
          have hb1 : Below w.heap.size w w1 := (hb.alloc hsz _).grown hgrow (by simp; omega) (fun b e => (hlt b e).1)
          have HO := Lib.hid hown'
          clear hown' hgrow hown
          go_wp2_with fail
          go_roundw
          case rel => exact ⟨k + 1, by omega, by go_num, by simpa [elemsTo, hin] using HO.out, hb1⟩
          case measure => simp [intOf]; omega

theorem elem_at {n : Int} {xs : List Int} (hp : RelP n xs) {k : Nat} (hk : k < xs.length) {m : Nat} (hm : m < (elems (nth xs k).toNat).length) :
    ∃ i : Nat, i < xs.length ∧ hasB (nth xs k) i = true ∧ nth (elems (nth xs k).toNat) m = (i : Int) := by
  have h1 := hp.small k hk
  have h0 := hp.pos k hk
  obtain ⟨i, hb, e⟩ := (mem_elems (by omega)).1 (nth_mem hm)
  exact ⟨i, has_lt hp hk hb, hb, e⟩
theorem at_elem {n : Int} {xs : List Int} (hp : RelP n xs) {k : Nat} (hk : k < xs.length) {j : Nat} (h : hasB (nth xs k) j = true) :
    ∃ m, m < (elems (nth xs k).toNat).length ∧ nth (elems (nth xs k).toNat) m = (j : Int) := by
  have h1 := hp.small k hk
  have h0 := hp.pos k hk
  have : (j : Int) ∈ elems (nth xs k).toNat := (mem_elems (by omega)).2 ⟨j, h, rfl⟩
  obtain ⟨m, hm, e⟩ := mem_nth this
  exact ⟨m, hm, e⟩
theorem orGood_any (n : Int) (a : Option Addr) (xs : List Int) (cap : Nat) (w : World) (hx : Rd w a xs) :
    Calls Try.prog 115 #[.agg #[.int .i64 n, .slice a xs.length cap]] w fun e w' => e = .returned (.bool (ordB n xs)) ∧ Below w.heap.size w w' := by
  have hx1 := hx.alloc (.cells #[.int .i64 n, .slice a xs.length cap] 28)
  have hlen := hx.len
  cases hr : relB n xs
  · have HR : Hid (ordB n xs = false) := by simp [Hid, ordB, hr]
    go_enter Try.func115, Try.ntmps115
    go_wp2_with fail
    refine (orRelation_any _ _ _ _ _ hx1).mono ?_
    rintro e w1 ⟨rfl, hb1⟩
    go_wp2_with fail
    go_ret
    exact ⟨ret_bool HR.out.symm, Below.trans (by repeat (first | exact Below.refl _ _ | assumption | refine Below.alloc ?_ (by first | exact Nat.le_refl _ | (simp only [World.size_alloc, World.size_setCell, World.size_drew]; omega) | omega) _ | refine Below.setCell ?_ (by first | exact Nat.le_refl _ | (simp only [World.size_alloc, World.size_setCell, World.size_drew]; omega) | omega) _ | refine Below.drew ?_)) (hb1.mono (by first | (simp only [World.size_alloc, World.size_setCell, World.size_drew]; omega) | omega))⟩
  · have hp := relB_p hr
    go_enter Try.func115, Try.ntmps115
    go_wp2_with fail
    refine (orRelation_any _ _ _ _ _ hx1).mono ?_
    rintro e w1 ⟨rfl, hb1⟩
    have B1 := (Box2.new w _ _ _).below hb1
    have ⟨z1, c1, d1⟩ := B1
    have bw1 : Below w.heap.size w w1 := Below.trans (by repeat (first | exact Below.refl _ _ | assumption | refine Below.alloc ?_ (by first | exact Nat.le_refl _ | (simp only [World.size_alloc, World.size_setCell, World.size_drew]; omega) | omega) _ | refine Below.setCell ?_ (by first | exact Nat.le_refl _ | (simp only [World.size_alloc, World.size_setCell, World.size_drew]; omega) | omega) _ | refine Below.drew ?_)) (hb1.mono (by first | (simp only [World.size_alloc, World.size_setCell, World.size_drew]; omega) | omega))
    have HR := Lib.hid hr
    clear hb1
    go_wp2_with fail
    clear hr
    go_loopw [13] (fun i wr => ∃ k : Nat, k ≤ xs.length ∧ i = .int .i64 k ∧ (∀ j, j < k → okAtB xs j = true) ∧ Below w1.heap.size w1 wr) (fun i _ => xs.length - (intOf i).toNat)
    case atStart => exact ⟨0, Nat.zero_le _, rfl, fun j hj => by omega, Below.refl _ _⟩
    case round =>
      obtain ⟨k, hk, rfl, hall, hb⟩ := hrel
      have Br := B1.below hb
      have ⟨zr, cr, dr⟩ := Br
      have bwr := bw1.trans (hb.mono bw1.size)
      have HA := Lib.hid hall
      clear hall c1 d1
      by_cases hlt : k < xs.length
      · obtain ⟨b, off, rfl, hbl, hc⟩ := (hx.below bwr).cell k hlt
        have hpk := hp.pos k hlt
        have hsk := hp.small k hlt
        have hsk' : nth xs k ≤ 9223372036854775807 := by omega
        cases hin : hasB (nth xs k) k
        · go_wp2_with fail
          refine (orHas_any _ _ _ hpk hsk' (by omega)).mono ?_
          rintro e w' ⟨rfl, rfl⟩
          go_wp2_with fail
          refine (orList_any _ _ hpk hsk).mono ?_
          rintro e w2 ⟨a2, cap2, rfl, ho2, hb2⟩
          have ⟨z2, c2, d2⟩ := Br.below hb2
          have bw2 := bwr.trans (hb2.mono bwr.size)
          have hx2 := hx.below bw2
          have hr2 := ho2.rd
          have bk2 := hb.trans (hb2.mono hb.size)
          have hel := elems_len (nth xs k).toNat
          have HI := Lib.hid hin
          clear hin cr dr hc
          obtain ⟨es, hes⟩ : ∃ es, es = elems (nth xs k).toNat := ⟨_, rfl⟩
          rw [← hes] at ho2 hr2 hel
          have HES := Lib.hid hes
          rw [← hes]
          clear hes ho2 hb2
          go_wp2_with fail
          go_loop [24] (fun i => ∃ j : Nat, j ≤ es.length ∧ i = .int .i64 j ∧ (∀ m, m < j → sub (nth xs (nth es m).toNat).toNat (nth xs k).toNat = 0)) (fun i => es.length - (intOf i).toNat)
          case atStart => exact ⟨0, Nat.zero_le _, rfl, fun m hm => by omega⟩
          case round =>
            obtain ⟨j, hj, rfl, hin2⟩ := hrel
            have HIN := Lib.hid hin2
            clear hin2
            by_cases hjl : j < es.length
            · obtain ⟨b2, off2, rfl, hbl2, hc2⟩ := hr2.cell j hjl
              obtain ⟨i, hil, hib, hie⟩ : ∃ i : Nat, i < xs.length ∧ hasB (nth xs k) i = true ∧ nth es j = (i : Int) := by
                have := elem_at hp hlt (m := j) (by rw [← HES.out]; exact hjl)
                rw [← HES.out] at this
                exact this
              obtain ⟨b3, off3, e3, hbl3, hc3⟩ := hx2.cell i hil
              simp only [Option.some.injEq, Addr.mk.injEq, and_true] at e3
              obtain ⟨rfl, rfl⟩ := e3
              have hpi := hp.pos i hil
              have hsi := hp.small i hil
              have hsub := sub_i (a := nth xs i) (b := nth xs k) hpi (by omega) hpk (by omega)
              have HB := Lib.hid hib
              have HE := Lib.hid hie
              rw [hie] at hc2
              clear hib hie
              by_cases hz : sub (nth xs i).toNat (nth xs k).toNat = 0
              · have hne : (bits BinOp.andNot IntKind.i64 (nth xs i) (nth xs k) != 0) = false := by rw [hsub, hz]; rfl
                have HZ := Lib.hid hz
                clear hz hsub
                go_wp2_with fail
                go_round
                case rel =>
                  refine ⟨j + 1, by omega, by go_num, fun m hm => ?_⟩
                  by_cases e : m = j
                  · rw [e, HE.out, Int.toNat_natCast]; exact HZ.out
                  · exact HIN.out m (by omega)
                case measure => simp [intOf]; omega
              · have hne : (bits BinOp.andNot IntKind.i64 (nth xs i) (nth xs k) != 0) = true := by rw [hsub]; simp; omega
                have HN := Lib.hid (ordB_no (n := n) hlt (okAtB_sub hil HB.out hz))
                clear hz hsub
                go_wp2_with fail
                go_ret
                exact ⟨ret_bool HN.out.symm, bw2⟩
            · obtain rfl : j = es.length := by omega
              have hok : okAtB xs k = true := by
                rw [okAtB_iff]
                refine ⟨HI.out, fun j hj hbj => ?_⟩
                obtain ⟨m, hm, e⟩ := at_elem hp hlt hbj
                rw [← HES.out] at hm e
                have := HIN.out m hm
                rwa [e, Int.toNat_natCast] at this
              have HK := Lib.hid hok
              clear hok
              go_wp2_with fail
              go_roundw
              case rel =>
                refine ⟨k + 1, by omega, by go_num, fun j hj => ?_, bk2⟩
                by_cases e : j = k
                · rw [e]; exact HK.out
                · exact HA.out j (by omega)
              case measure => simp [intOf]; omega
        · have HN := Lib.hid (ordB_no (n := n) hlt (okAtB_has hin))
          go_wp2_with fail
          refine (orHas_any _ _ _ hpk hsk' (by omega)).mono ?_
          rintro e w' ⟨rfl, rfl⟩
          go_wp2_with fail
          go_ret
          exact ⟨ret_bool HN.out.symm, bwr⟩
      · obtain rfl : k = xs.length := by omega
        go_wp2_with fail
        go_ret
        exact ⟨ret_bool (ordB_iff.2 ⟨HR.out, HA.out⟩).symm, bwr⟩

theorem ivGoodOrder_any (n : Int) (a : Option Addr) (xs : List Int) (cap : Nat) (w : World) (hx : Rd w a xs) :
    Calls Try.prog 70 #[.agg #[.int .i64 n, .slice a xs.length cap]] w fun e w' => e = .returned (.bool (isIv n xs)) ∧ Below w.heap.size w w' := by
  have hx1 := hx.alloc (.cells #[.int .i64 n, .slice a xs.length cap] 28)
  cases hr : ordB n xs
  · have H1 : Hid (isIv n xs = false) := by simp [Hid, isIv, hr]
    go_enter Try.func70, Try.ntmps70
    go_wp2_with fail
    refine (orGood_any _ _ _ _ _ hx1).mono ?_
    rw [hr]
    rintro e w1 ⟨rfl, hb1⟩
    have bw1 : Below w.heap.size w w1 := Below.trans (by repeat (first | exact Below.refl _ _ | assumption | refine Below.alloc ?_ (by first | exact Nat.le_refl _ | (simp only [World.size_alloc, World.size_setCell, World.size_drew]; omega) | omega) _ | refine Below.setCell ?_ (by first | exact Nat.le_refl _ | (simp only [World.size_alloc, World.size_setCell, World.size_drew]; omega) | omega) _ | refine Below.drew ?_)) (hb1.mono (by first | (simp only [World.size_alloc, World.size_setCell, World.size_drew]; omega) | omega))
    go_wp2_with fail
    go_ret
    exact ⟨ret_bool H1.out.symm, bw1⟩
  · have hp := ord_rel hr
    have H1 : Hid (isIv n xs = !(twoF xs).isSome) := by simp [Hid, isIv, hr]
    go_enter Try.func70, Try.ntmps70
    go_wp2_with fail
    refine (orGood_any _ _ _ _ _ hx1).mono ?_
    rw [hr]
    rintro e w1 ⟨rfl, hb1⟩
    have A1 : Box2 w1 w.heap.size (.int .i64 n) (.slice a xs.length cap) := (Box2.new w _ _ _).below hb1
    have bw1 : Below w.heap.size w w1 := Below.trans (by repeat (first | exact Below.refl _ _ | assumption | refine Below.alloc ?_ (by first | exact Nat.le_refl _ | (simp only [World.size_alloc, World.size_setCell, World.size_drew]; omega) | omega) _ | refine Below.setCell ?_ (by first | exact Nat.le_refl _ | (simp only [World.size_alloc, World.size_setCell, World.size_drew]; omega) | omega) _ | refine Below.drew ?_)) (hb1.mono (by first | (simp only [World.size_alloc, World.size_setCell, World.size_drew]; omega) | omega))
    have ⟨zA, cA, dA⟩ := A1
    clear hb1 hr
    go_wp2_with fail
    refine (ivIs_any _ _ _ _ _ (hx.below bw1) hp).mono ?_
    rintro e w2 ⟨rfl, hb2⟩
    go_wp2_with fail
    go_ret
    exact ⟨ret_bool (by rw [H1.out]; cases twoF xs <;> rfl), bw1.trans (hb2.mono bw1.size)⟩

theorem sEnds_any (n : Int) (a : Option Addr) (xs : List Int) (cap : Nat) (w : World) (hn : -9223372036854775808 ≤ n ∧ n ≤ 9223372036854775807) (hx : Rd w a xs) :
    Calls Try.prog 16 #[.agg #[.int .i64 n, .slice a xs.length cap]] w (GotV w (endN n xs) (endL n xs) (isIv n xs)) := by
  have hx1 := hx.alloc (.cells #[.int .i64 n, .slice a xs.length cap] 28)
  cases hr : isIv n xs
  · have H1 : Hid (endN n xs = 0) := by simp [Hid, endN, hr]
    have H2 : Hid (endL n xs = []) := by simp [Hid, endL, hr]
    have HR := Lib.hid hr
    clear hr
    go_enter Try.func16, Try.ntmps16
    go_wp2_with fail
    refine (ivGoodOrder_any _ _ _ _ _ hx1).mono ?_
    rw [HR.out]
    rintro e w1 ⟨rfl, hb1⟩
    have bw1 : Below w.heap.size w w1 := Below.trans (by repeat (first | exact Below.refl _ _ | assumption | refine Below.alloc ?_ (by first | exact Nat.le_refl _ | (simp only [World.size_alloc, World.size_setCell, World.size_drew]; omega) | omega) _ | refine Below.setCell ?_ (by first | exact Nat.le_refl _ | (simp only [World.size_alloc, World.size_setCell, World.size_drew]; omega) | omega) _ | refine Below.drew ?_)) (hb1.mono (by first | (simp only [World.size_alloc, World.size_setCell, World.size_drew]; omega) | omega))
    go_wp2_with fail
    refine bodyPost_ret (v := .tuple #[.slice none 0 0, .bool false]) (by simp [results, Try.results16, go_sem]) rfl ?_
    exact ⟨none, 0, by rw [H1.out], by rw [H1.out, H2.out]; exact OwnV.nil _ _, bw1⟩
  · have ho := isIv_ord hr
    have H1 : Hid (endN n xs = xs.length) := by simp [Hid, endN, hr]
    have H2 : Hid (endL n xs = endp xs xs.length) := by simp [Hid, endL, hr]
    have HR := Lib.hid hr
    have HO := Lib.hid ho
    clear hr ho
    go_enter Try.func16, Try.ntmps16
    go_wp2_with fail
    refine (ivGoodOrder_any _ _ _ _ _ hx1).mono ?_
    rw [HR.out]
    rintro e w1 ⟨rfl, hb1⟩
    have A1 : Box2 w1 w.heap.size (.int .i64 n) (.slice a xs.length cap) := (Box2.new w _ _ _).below hb1
    have bw1 : Below w.heap.size w w1 := Below.trans (by repeat (first | exact Below.refl _ _ | assumption | refine Below.alloc ?_ (by first | exact Nat.le_refl _ | (simp only [World.size_alloc, World.size_setCell, World.size_drew]; omega) | omega) _ | refine Below.setCell ?_ (by first | exact Nat.le_refl _ | (simp only [World.size_alloc, World.size_setCell, World.size_drew]; omega) | omega) _ | refine Below.drew ?_)) (hb1.mono (by first | (simp only [World.size_alloc, World.size_setCell, World.size_drew]; omega) | omega))
    have ⟨zA, cA, dA⟩ := A1
    clear hb1
    go_wp2_with fail
    refine (ivEnds_any _ _ _ _ _ (hx.below bw1) HO.out).mono ?_
    rintro e w2 ⟨a2, cap2, rfl, ho2, hb2⟩
    go_wp2_with fail
    refine bodyPost_ret (v := .tuple #[.slice a2 xs.length cap2, .bool true]) (by simp [results, Try.results16, go_sem]) rfl ?_
    exact ⟨a2, cap2, by rw [H1.out], by rw [H1.out, H2.out]; exact ho2.mono bw1.size, bw1.trans (hb2.mono bw1.size)⟩

theorem sliceEqual_any (a b : Option Addr) (xs ys : List Int) (ca cb : Nat) (w : World) (hx : Rd w a xs) (hy : Rd w b ys) :
    Calls Try.prog 73 #[.slice a xs.length ca, .slice b ys.length cb] w fun e w' => e = .returned (.bool (eqL xs ys)) ∧ Below w.heap.size w w' := by
  have hlx := hx.len
  have hly := hy.len
  by_cases hl : xs.length = ys.length
  · have hl' : ((xs.length : Int) != (ys.length : Int)) = false := by simp [hl]
    go_enter Try.func73, Try.ntmps73
    have HL := Lib.hid hl
    clear hl
    go_wp2_with fail
    go_loopw [13] (fun i wr => ∃ k : Nat, k ≤ xs.length ∧ i = .int .i64 k ∧ xs.take k = ys.take k ∧ Below w.heap.size w wr) (fun i _ => xs.length - (intOf i).toNat)
    case atStart => exact ⟨0, Nat.zero_le _, rfl, rfl, Below.refl _ _⟩
    case round =>
      obtain ⟨k, hk, rfl, htk, hb⟩ := hrel
      have HT := Lib.hid htk
      clear htk
      by_cases hlt : k < xs.length
      · have hlt' : k < ys.length := by rw [← HL.out]; exact hlt
        obtain ⟨b1, o1, rfl, hb1, hc1⟩ := (hx.below hb).cell k hlt
        obtain ⟨b2, o2, rfl, hb2, hc2⟩ := (hy.below hb).cell k hlt'
        by_cases he : nth xs k = nth ys k
        · have he' : (nth xs k != nth ys k) = false := by simp [he]
          have HE := Lib.hid he
          clear he
          go_wp2_with fail
          go_quiet (fail)
          go_wp2_with fail
          go_roundw
          case rel =>
            refine ⟨k + 1, by omega, by go_num, ?_, by exact hb.trans (Joins.below_draws _ _ _)⟩
            rw [List.take_succ_eq_append_getElem hlt, List.take_succ_eq_append_getElem hlt', HT.out, ← nth_get, ← nth_get, HE.out]
          case measure => simp [intOf]; omega
        · have he' : (nth xs k != nth ys k) = true := by simp [he]
          have hne : eqL xs ys = false := by
            simp only [eqL, decide_eq_false_iff_not]
            intro e
            subst e
            exact he rfl
          have HN := Lib.hid hne
          clear he hne
          go_wp2_with fail
          go_quiet (fail)
          go_wp2_with fail
          go_ret
          exact ⟨ret_bool HN.out.symm, hb.trans (Joins.below_draws _ _ _)⟩
      · go_wp2_with fail
        go_ret
        refine ⟨ret_bool ?_, hb⟩
        have h1 := HT.out
        rw [List.take_of_length_le (by omega), List.take_of_length_le (by rw [← HL.out]; omega)] at h1
        simp [eqL, h1]
  · have hl' : ((xs.length : Int) != (ys.length : Int)) = true := by simp; omega
    have hne : eqL xs ys = false := by
      simp only [eqL, decide_eq_false_iff_not]
      intro e
      exact hl (by rw [e])
    have HN := Lib.hid hne
    clear hl hne
    go_enter Try.func73, Try.ntmps73
    go_wp2_with fail
    go_ret
    exact ⟨ret_bool HN.out.symm, Below.refl _ _⟩

theorem iDoRep_any (a : Option Addr) (cs : List Int) (n cap : Nat) (m : Int) (a1 : Option Addr) (ys : List Int) (cap1 : Nat) (w : World) (hx : Rd w a cs) (hl : cs.length = n * 2) (hn : n ≤ 1048576) (hm : -9223372036854775808 ≤ m ∧ m ≤ 9223372036854775807) (hy : Rd w a1 ys) :
    Calls Try.prog 17 #[.slice a n cap, .agg #[.int .i64 m, .slice a1 ys.length cap1]] w fun e w' => e = .returned (.tuple #[.bool (drB cs n m ys), .bool (drOk cs n m ys)]) ∧ Below w.heap.size w w' := by
  have HL := Lib.hid hl
  clear hl
  have hx1 := hx.alloc (.cells #[.int .i64 m, .slice a1 ys.length cap1] 28)
  cases hg : goodV cs n
  · have H0 : Hid (drOk cs n m ys = false) := by simp [Hid, drOk, hg]
    have H1 : Hid (drB cs n m ys = false) := by simp [Hid, drB, H0.out]
    have H2 : Hid (ooN cs n = 0) := by simp [Hid, ooN, hg]
    have H3 : Hid (ooL cs n = []) := by simp [Hid, ooL, hg]
    have HG := Lib.hid hg
    clear hg
    go_enter Try.func17, Try.ntmps17
    go_wp2_with fail
    refine (iOrderOfIv_any _ _ _ _ _ hx1 HL.out hn).mono ?_
    rw [HG.out, H2.out, H3.out]
    rintro e w1 ⟨p1, q1, rfl, ho1, hb1⟩
    have bw1 : Below w.heap.size w w1 := Below.trans (by repeat (first | exact Below.refl _ _ | assumption | refine Below.alloc ?_ (by first | exact Nat.le_refl _ | (simp only [World.size_alloc, World.size_setCell, World.size_drew]; omega) | omega) _ | refine Below.setCell ?_ (by first | exact Nat.le_refl _ | (simp only [World.size_alloc, World.size_setCell, World.size_drew]; omega) | omega) _ | refine Below.drew ?_)) (hb1.mono (by first | (simp only [World.size_alloc, World.size_setCell, World.size_drew]; omega) | omega))
    clear ho1
    go_wp2_with fail
    go_ret2
    exact ⟨ret_bb H1.out.symm H0.out.symm, bw1.alloc bw1.size _⟩
  · have H2 : Hid (ooN cs n = (n : Int)) := by simp [Hid, ooN, hg]
    have H3 : Hid (ooL cs n = ivo cs n n) := by simp [Hid, ooL, hg]
    have HG := Lib.hid hg
    cases hr : ordB m ys
    · have H0 : Hid (drOk cs n m ys = false) := by simp [Hid, drOk, hr]
      have H1 : Hid (drB cs n m ys = false) := by simp [Hid, drB, H0.out]
      have HR := Lib.hid hr
      clear hg hr
      go_enter Try.func17, Try.ntmps17
      go_wp2_with fail
      refine (iOrderOfIv_any _ _ _ _ _ hx1 HL.out hn).mono ?_
      rw [HG.out, H2.out, H3.out]
      unfold GotO
      rw [ivo_len]
      rintro e w1 ⟨p1, q1, rfl, ho1, hb1⟩
      have A1 : Box2 w1 w.heap.size (.int .i64 m) (.slice a1 ys.length cap1) := (Box2.new w _ _ _).below hb1
      have bw1 : Below w.heap.size w w1 := Below.trans (by repeat (first | exact Below.refl _ _ | assumption | refine Below.alloc ?_ (by first | exact Nat.le_refl _ | (simp only [World.size_alloc, World.size_setCell, World.size_drew]; omega) | omega) _ | refine Below.setCell ?_ (by first | exact Nat.le_refl _ | (simp only [World.size_alloc, World.size_setCell, World.size_drew]; omega) | omega) _ | refine Below.drew ?_)) (hb1.mono (by first | (simp only [World.size_alloc, World.size_setCell, World.size_drew]; omega) | omega))
      have ⟨zA, cA, dA⟩ := A1
      clear ho1 hb1
      go_wp2_with fail
      refine (iIsOrder_any _ _ _ _ _ hm ((hy.below bw1).alloc _)).mono ?_
      rw [HR.out]
      rintro e w2 ⟨rfl, hb2⟩
      have ht2 : Below w1.heap.size w1 w2 := Below.trans (by repeat (first | exact Below.refl _ _ | assumption | refine Below.alloc ?_ (by first | exact Nat.le_refl _ | (simp only [World.size_alloc, World.size_setCell, World.size_drew]; omega) | omega) _ | refine Below.setCell ?_ (by first | exact Nat.le_refl _ | (simp only [World.size_alloc, World.size_setCell, World.size_drew]; omega) | omega) _ | refine Below.drew ?_)) (hb2.mono (by first | (simp only [World.size_alloc, World.size_setCell, World.size_drew]; omega) | omega))
      go_wp2_with fail
      go_ret2
      exact ⟨ret_bb H1.out.symm H0.out.symm, bw1.trans (ht2.mono bw1.size)⟩
    · have H0 : Hid (drOk cs n m ys = true) := by simp [Hid, drOk, hg, hr]
      have H1 : Hid (drB cs n m ys = eqL (ivo cs n n) ys) := by simp [Hid, drB, H0.out]
      have HR := Lib.hid hr
      clear hg hr
      go_enter Try.func17, Try.ntmps17
      go_wp2_with fail
      refine (iOrderOfIv_any _ _ _ _ _ hx1 HL.out hn).mono ?_
      rw [HG.out, H2.out, H3.out]
      unfold GotO
      rw [ivo_len]
      rintro e w1 ⟨p1, q1, rfl, ho1, hb1⟩
      have A1 : Box2 w1 w.heap.size (.int .i64 m) (.slice a1 ys.length cap1) := (Box2.new w _ _ _).below hb1
      have bw1 : Below w.heap.size w w1 := Below.trans (by repeat (first | exact Below.refl _ _ | assumption | refine Below.alloc ?_ (by first | exact Nat.le_refl _ | (simp only [World.size_alloc, World.size_setCell, World.size_drew]; omega) | omega) _ | refine Below.setCell ?_ (by first | exact Nat.le_refl _ | (simp only [World.size_alloc, World.size_setCell, World.size_drew]; omega) | omega) _ | refine Below.drew ?_)) (hb1.mono (by first | (simp only [World.size_alloc, World.size_setCell, World.size_drew]; omega) | omega))
      have ⟨zA, cA, dA⟩ := A1
      have hr1 : Rd w1 p1 (ivo cs n n) := ho1.rd
      clear ho1 hb1
      go_wp2_with fail
      refine (iIsOrder_any _ _ _ _ _ hm ((hy.below bw1).alloc _)).mono ?_
      rw [HR.out]
      rintro e w2 ⟨rfl, hb2⟩
      have B1 : Box2 w2 w1.heap.size (.int .i64 (n : Int)) (.slice p1 n q1) := (Box2.new w1 _ _ _).below hb2
      have ht2 : Below w1.heap.size w1 w2 := Below.trans (by repeat (first | exact Below.refl _ _ | assumption | refine Below.alloc ?_ (by first | exact Nat.le_refl _ | (simp only [World.size_alloc, World.size_setCell, World.size_drew]; omega) | omega) _ | refine Below.setCell ?_ (by first | exact Nat.le_refl _ | (simp only [World.size_alloc, World.size_setCell, World.size_drew]; omega) | omega) _ | refine Below.drew ?_)) (hb2.mono (by first | (simp only [World.size_alloc, World.size_setCell, World.size_drew]; omega) | omega))
      have A2 := A1.below ht2
      have bw2 := bw1.trans (ht2.mono bw1.size)
      have hr2 := hr1.below ht2
      have hy2 := hy.below bw2
      have ⟨zA2, cA2, dA2⟩ := A2
      have ⟨zB2, cB2, dB2⟩ := B1
      clear cA dA hb2
      go_wp2_with fail
      have hq := sliceEqual_any p1 a1 (ivo cs n n) ys q1 cap1 w2 hr2 hy2
      rw [ivo_len] at hq
      refine hq.mono ?_
      rintro e w3 ⟨rfl, hb3⟩
      clear hq
      go_wp2_with fail
      go_ret2
      exact ⟨ret_bb H1.out.symm H0.out.symm, bw2.trans (hb3.mono bw2.size)⟩

def eqV (x y x' y' : Int) : Bool := decide (x = x') && decide (y = y')

theorem eqV_at {cs ds : List Int} {k : Nat} (h : cs.take (k * 2) = ds.take (k * 2)) (h1 : k * 2 + 1 < cs.length) (h2 : k * 2 + 1 < ds.length) (he : eqV (lft cs k) (rgt cs k) (lft ds k) (rgt ds k) = true) : cs.take ((k+1) * 2) = ds.take ((k+1) * 2) := by
  simp only [eqV, Bool.and_eq_true, decide_eq_true_eq] at he
  have he1 : nth cs (k * 2) = nth ds (k * 2) := he.1
  have he2 : nth cs (k * 2 + 1) = nth ds (k * 2 + 1) := he.2
  rw [show (k+1) * 2 = k * 2 + 1 + 1 from by omega, List.take_succ_eq_append_getElem h1, List.take_succ_eq_append_getElem h2, List.take_succ_eq_append_getElem (by omega), List.take_succ_eq_append_getElem (by omega), h, ← nth_get, ← nth_get, ← nth_get, ← nth_get, he1, he2]
theorem eqV_no {cs ds : List Int} {k : Nat} (he : eqV (lft cs k) (rgt cs k) (lft ds k) (rgt ds k) = false) : eqL cs ds = false := by
  rw [eqL, decide_eq_false_iff_not]
  rintro rfl
  simp [eqV] at he

theorem equalV_any (a b : Option Addr) (cs ds : List Int) (n m ca cb : Nat) (w : World) (hx : Rd w a cs) (hy : Rd w b ds) (hn : cs.length = n * 2) (hm : ds.length = m * 2) (hn0 : n ≤ 1048576) (hm0 : m ≤ 1048576) :
    Calls Try.prog 74 #[.slice a n ca, .slice b m cb] w fun e w' => e = .returned (.bool (eqL cs ds)) ∧ Below w.heap.size w w' := by
  by_cases hl : n = m
  · have hl' : ((n : Int) != (m : Int)) = false := by simp [hl]
    subst hl
    have HN := Lib.hid hn
    have HM := Lib.hid hm
    clear hn hm
    go_enter Try.func74, Try.ntmps74
    go_wp2_with fail
    go_loopw [13] (fun i wr => ∃ k : Nat, k ≤ n ∧ i = .int .i64 k ∧ cs.take (k * 2) = ds.take (k * 2) ∧ Below w.heap.size w wr) (fun i _ => n - (intOf i).toNat)
    case atStart => exact ⟨0, Nat.zero_le _, rfl, rfl, Below.refl _ _⟩
    case round =>
      obtain ⟨k, hk, rfl, htk, hb⟩ := hrel
      have HT := Lib.hid htk
      clear htk
      by_cases hlt : k < n
      · obtain ⟨b1, o1, rfl, hb1, hc1, hc1'⟩ := (hx.below hb).pair HN.out hlt
        obtain ⟨b2, o2, rfl, hb2, hc2, hc2'⟩ := (hy.below hb).pair HM.out hlt
        have k0 : (0 : Int) ≤ (k : Int) := by omega
        have k1 : (k : Int) < (n : Int) := by omega
        by_cases hq1 : lft cs k = lft ds k
        · by_cases hq2 : rgt cs k = rgt ds k
          · have HE := Lib.hid (eqV_at HT.out (by have := HN.out; omega) (by have := HM.out; omega) (by simp [eqV, hq1, hq2]))
            rw [hq1] at hc1
            rw [hq2] at hc1'
            clear hq1 hq2
            go_wp2_with fail
            go_quiet (fail)
            go_wp2_with fail
            go_roundw
            case rel => exact ⟨k + 1, by omega, by go_num, HE.out, hb.trans (Joins.below_draws _ _ _)⟩
            case measure => simp [intOf]; omega
          · have HF := Lib.hid (eqV_no (cs := cs) (ds := ds) (k := k) (by simp [eqV, hq2]))
            go_wp2_with fail
            go_quiet (fail)
            go_wp2_with fail
            go_ret
            exact ⟨ret_bool HF.out.symm, hb.trans (Joins.below_draws _ _ _)⟩
        · have HF := Lib.hid (eqV_no (cs := cs) (ds := ds) (k := k) (by simp [eqV, hq1]))
          go_wp2_with fail
          go_quiet (fail)
          go_wp2_with fail
          go_ret
          exact ⟨ret_bool HF.out.symm, hb.trans (Joins.below_draws _ _ _)⟩
      · obtain rfl : k = n := by omega
        go_wp2_with fail
        go_ret
        refine ⟨ret_bool ?_, hb⟩
        have h1 := HT.out
        have h2 := HN.out
        have h3 := HM.out
        rw [List.take_of_length_le (by omega), List.take_of_length_le (by omega)] at h1
        simp [eqL, h1]
  · have hl' : ((n : Int) != (m : Int)) = true := by simp; omega
    have HF : Hid (eqL cs ds = false) := by
      rw [Hid, eqL, decide_eq_false_iff_not]
      rintro rfl
      omega
    clear hl hn hm
    go_enter Try.func74, Try.ntmps74
    go_wp2_with fail
    go_ret
    exact ⟨ret_bool HF.out.symm, Below.refl _ _⟩

theorem iLeast_any (a : Option Addr) (cs : List Int) (n cap : Nat) (w : World) (hx : Rd w a cs) (hl : cs.length = n * 2) (hn : n ≤ 1048576) :
    Calls Try.prog 18 #[.slice a n cap] w fun e w' => e = .returned (.tuple #[.bool (leastB cs n), .bool (goodV cs n)]) ∧ Below w.heap.size w w' := by
  have HL := Lib.hid hl
  clear hl
  cases hg : goodV cs n
  · have H1 : Hid (leastB cs n = false) := by simp [Hid, leastB, hg]
    have H2 : Hid (ooN cs n = 0) := by simp [Hid, ooN, hg]
    have H3 : Hid (ooL cs n = []) := by simp [Hid, ooL, hg]
    have HG := Lib.hid hg
    clear hg
    go_enter Try.func18, Try.ntmps18
    go_wp2_with fail
    refine (iOrderOfIv_any _ _ _ _ _ hx HL.out hn).mono ?_
    rw [HG.out, H2.out, H3.out]
    rintro e w1 ⟨p1, q1, rfl, ho1, hb1⟩
    clear ho1
    go_wp2_with fail
    go_ret2
    exact ⟨ret_bb H1.out.symm rfl, hb1.alloc hb1.size _⟩
  · have hn10 := (goodV_iff.1 hg).1
    have H1 : Hid (leastB cs n = eqL cs (endp (ivo cs n n) n)) := by simp [Hid, leastB, hg]
    have H2 : Hid (ooN cs n = (n : Int)) := by simp [Hid, ooN, hg]
    have H3 : Hid (ooL cs n = ivo cs n n) := by simp [Hid, ooL, hg]
    have hiv := ivo_is hg
    have H4 : Hid (endN (n : Int) (ivo cs n n) = n) := by rw [Hid, endN, if_pos hiv, ivo_len]
    have H5 : Hid (endL (n : Int) (ivo cs n n) = endp (ivo cs n n) n) := by rw [Hid, endL, if_pos hiv, ivo_len]
    have HG := Lib.hid hg
    have HIV := Lib.hid hiv
    clear hg hiv
    go_enter Try.func18, Try.ntmps18
    go_wp2_with fail
    refine (iOrderOfIv_any _ _ _ _ _ hx HL.out hn).mono ?_
    rw [HG.out, H2.out, H3.out]
    unfold GotO
    rw [ivo_len]
    rintro e w1 ⟨p1, q1, rfl, ho1, hb1⟩
    have hr1 : Rd w1 p1 (ivo cs n n) := ho1.rd
    clear ho1
    go_wp2_with fail
    have hc := iEnds_any (n : Int) p1 (ivo cs n n) q1 (w1.alloc (.cells #[.int .i64 (n : Int), .slice p1 n q1] 28)) (by omega) (hr1.alloc _)
    rw [HIV.out, H4.out, H5.out, ivo_len] at hc
    refine hc.mono ?_
    rintro e w2 ⟨p2, q2, rfl, ho2, hb2⟩
    clear hc
    have ht2 : Below w1.heap.size w1 w2 := Below.trans (by repeat (first | exact Below.refl _ _ | assumption | refine Below.alloc ?_ (by first | exact Nat.le_refl _ | (simp only [World.size_alloc, World.size_setCell, World.size_drew]; omega) | omega) _ | refine Below.setCell ?_ (by first | exact Nat.le_refl _ | (simp only [World.size_alloc, World.size_setCell, World.size_drew]; omega) | omega) _ | refine Below.drew ?_)) (hb2.mono (by first | (simp only [World.size_alloc, World.size_setCell, World.size_drew]; omega) | omega))
    have bw2 := hb1.trans (ht2.mono hb1.size)
    have hr2 : Rd w2 p2 (endp (ivo cs n n) n) := ho2.rd (by omega)
    clear ho2 hb2
    go_wp2_with fail
    refine (equalV_any _ _ _ _ _ _ _ _ _ (hx.below bw2) hr2 HL.out (prs_len _ _ _) hn hn).mono ?_
    rintro e w3 ⟨rfl, hb3⟩
    go_wp2_with fail
    go_ret2
    exact ⟨ret_bb H1.out.symm rfl, bw2.trans (hb3.mono bw2.size)⟩

set_option maxRecDepth 100000 in
set_option maxHeartbeats 8000000 in
theorem walk (a0 : Option Addr) (n0 cap0 : Nat) (a1 : Option Addr) (n1 cap1 : Nat) (w : World) (hR0 : RdB w a0 n0) (hl0 : n0 ≤ 9223372036854775807) (hR1 : RdB w a1 n1) (hl1 : n1 ≤ 9223372036854775807) :
    Calls Try.prog 3 #[.slice a0 n0 cap0, .slice a1 n1 cap1] w fun e w' => e = .returned (.bool true) ∧ Below w.heap.size w w' := by
  go_enter Try.func3, Try.ntmps3
  go_wp2_with fail
  refine (big_any _ _ _ _ _ _ _ hl0 hl1).mono ?_
  rintro e w' ⟨he, rfl⟩
  rcases he with rfl | ⟨rfl, hb0, hb1⟩
  · go_wp2_with fail
    go_ret
    exact ⟨rfl, (by repeat (first | exact Below.refl _ _ | assumption | refine Below.alloc ?_ (by first | exact Nat.le_refl _ | (simp only [World.size_alloc, World.size_setCell, World.size_drew]; omega) | omega) _ | refine Below.setCell ?_ (by first | exact Nat.le_refl _ | (simp only [World.size_alloc, World.size_setCell, World.size_drew]; omega) | omega) _ | refine Below.drew ?_))⟩
  · go_wp2_with fail
    refine (drOrdIv_any _ _ _ _ hR0 hb0).mono ?_
    rintro e w1 ⟨n, a, cap, cs, rfl, ho, hn12, hx, hb⟩
    have HB := Lib.hid hb
    have HR := Lib.hid (ho.rd (by omega))
    have hcl : cs.length = n * 2 := ho.len
    clear hx ho hb hR0 hR1 hl0 hl1 hb0 hb1
    have HEQ : Hid (∀ (m : Int) (zs : List Int), eqO m zs m zs = true) := fun m zs => eqO_refl m zs
    obtain ⟨N, hN⟩ : ∃ N, N = ooN cs n := ⟨_, rfl⟩
    obtain ⟨L, hL⟩ : ∃ L, L = ooL cs n := ⟨_, rfl⟩
    obtain ⟨G, hG⟩ : ∃ G, G = goodV cs n := ⟨_, rfl⟩
    have HIO := Lib.hid (fun W (h : Rd W a cs) => iOrderOfIv_any a cs n cap W h hcl (by omega))
    have HSO := Lib.hid (fun W (h : Rd W a cs) => sOrderOfIv_any a cs n cap W h hcl (by omega))
    have HIA := Lib.hid (fun W (h : Rd W a cs) => iAreIntervals_any a cs n cap W h hcl (by omega))
    unfold GotO at HIO HSO
    rw [← hN, ← hL, ← hG] at HIO HSO
    rw [← hG] at HIA
    have HN := Lib.hid hN
    have HL := Lib.hid hL
    have HG := Lib.hid hG
    have HCL := Lib.hid hcl
    have HCLX := Lib.hid hcl
    have q1 : (G != G) = false := by simp
    clear hN hL hG hcl
    go_wp2_with fail
    refine (HIO.out _ HR.out).mono ?_
    rintro e w3 ⟨a3, c3, rfl, ho3, hb3⟩
    replace HB := Lib.hid (HB.out.trans (hb3.mono HB.out.size))
    replace HR := Lib.hid (HR.out.below hb3)
    clear hb3
    have HC := Lib.hid ho3.rd
    clear ho3
    have ba3 : Below w3.heap.size w3 (w3.alloc (.cells #[.int .i64 N, .slice a3 L.length c3] 28)) := (Below.refl _ _).alloc (Nat.le_refl _) _
    have HX := Lib.hid (Box2.new w3 (.int .i64 N) (.slice a3 L.length c3) 28)
    replace HB := Lib.hid (HB.out.trans (ba3.mono HB.out.size))
    replace HR := Lib.hid (HR.out.below ba3)
    replace HC := Lib.hid (HC.out.below ba3)
    obtain ⟨v3, hv3⟩ : ∃ x : World, x = w3.alloc (.cells #[.int .i64 N, .slice a3 L.length c3] 28) := ⟨_, rfl⟩
    have HV3 := Lib.hid hv3
    rw [← hv3] at HX HB HR HC
    clear ba3 hv3
    have cX := HX.out.2
    go_wp2_with fail
    rw [← HV3.out]
    clear cX
    have ⟨zX, cX, dX⟩ := HX.out
    refine (HSO.out _ HR.out).mono ?_
    rintro e w4 ⟨a4, c4, rfl, ho4, hb4⟩
    try clear zX cX dX
    replace HB := Lib.hid (HB.out.trans (hb4.mono HB.out.size))
    replace HX := Lib.hid (HX.out.below hb4)
    replace HR := Lib.hid (HR.out.below hb4)
    replace HC := Lib.hid (HC.out.below hb4)
    have ⟨zX, cX, dX⟩ := HX.out
    clear hb4
    have HD := Lib.hid ho4.rd
    clear ho4
    have ba4 : Below w4.heap.size w4 (w4.alloc (.cells #[.int .i64 N, .slice a4 L.length c4] 28)) := (Below.refl _ _).alloc (Nat.le_refl _) _
    have HY := Lib.hid (Box2.new w4 (.int .i64 N) (.slice a4 L.length c4) 28)
    replace HB := Lib.hid (HB.out.trans (ba4.mono HB.out.size))
    replace HX := Lib.hid (HX.out.below ba4)
    replace HR := Lib.hid (HR.out.below ba4)
    replace HC := Lib.hid (HC.out.below ba4)
    replace HD := Lib.hid (HD.out.below ba4)
    obtain ⟨v4, hv4⟩ : ∃ x : World, x = w4.alloc (.cells #[.int .i64 N, .slice a4 L.length c4] 28) := ⟨_, rfl⟩
    have HV4 := Lib.hid hv4
    rw [← hv4] at HY HB HX HR HC HD
    clear ba4 hv4
    have cY := HY.out.2
    go_wp2_with fail
    rw [← HV4.out]
    try clear zX cX dX
    clear cY
    have ⟨zX, cX, dX⟩ := HX.out
    have ⟨zY, cY, dY⟩ := HY.out
    refine ((pSameO_any N N a3 a4 L L c3 c4 _ HC.out HD.out)).mono ?_
    rw [HEQ.out]
    rintro e w5 ⟨rfl, hb5⟩
    try clear zX cX dX
    try clear zY cY dY
    replace HB := Lib.hid (HB.out.trans (hb5.mono HB.out.size))
    replace HX := Lib.hid (HX.out.below hb5)
    replace HY := Lib.hid (HY.out.below hb5)
    replace HR := Lib.hid (HR.out.below hb5)
    replace HC := Lib.hid (HC.out.below hb5)
    replace HD := Lib.hid (HD.out.below hb5)
    have ⟨zX, cX, dX⟩ := HX.out
    have ⟨zY, cY, dY⟩ := HY.out
    clear hb5
    go_wp2_with fail
    refine (HIA.out _ HR.out).mono ?_
    rintro e w6 ⟨rfl, hb6⟩
    try clear zX cX dX
    try clear zY cY dY
    replace HB := Lib.hid (HB.out.trans (hb6.mono HB.out.size))
    replace HX := Lib.hid (HX.out.below hb6)
    replace HY := Lib.hid (HY.out.below hb6)
    replace HR := Lib.hid (HR.out.below hb6)
    replace HC := Lib.hid (HC.out.below hb6)
    replace HD := Lib.hid (HD.out.below hb6)
    have ⟨zX, cX, dX⟩ := HX.out
    have ⟨zY, cY, dY⟩ := HY.out
    clear hb6
    clear HIO HSO HIA HD HY
    cases hGG : G
    · go_wp2_with fail
      go_ret
      exact ⟨rfl, HB.out⟩
    · have hgd : goodV cs n = true := by rw [← HG.out]; exact hGG
      have ⟨hn10, hwb⟩ := goodV_iff.1 hgd
      have e1 : N = (n : Int) := by rw [HN.out, ooN, if_pos hgd]
      have e2 : L = ivo cs n n := by rw [HL.out, ooL, if_pos hgd]
      have hll : L.length = n := by rw [e2, ivo_len]
      subst e1
      obtain rfl : n = L.length := hll.symm
      have hiv : isIv (L.length : Int) L = true := by
        have := ivo_is hgd
        rw [← e2] at this; exact this
      have hnn : -9223372036854775808 ≤ (L.length : Int) ∧ (L.length : Int) ≤ 9223372036854775807 := by omega
      have hrp := ends_rep hiv
      have hgdE := ends_good hiv
      have hcl := HCL.out
      have hlw : ∀ k, k < L.length → lowTo cs k ≤ 0 ∧ -1000 ≤ lowTo cs k := fun k hk => low_bd (fun j hj => by have := wrongB_no.1 (hwb j hj); omega) k (by omega)
      have hpr := least_all e2 hgd hiv
      have hcb : ∀ k, k < L.length → (-1000 ≤ lft cs k ∧ lft cs k ≤ 1000) ∧ (-1000 ≤ rgt cs k ∧ rgt cs k ≤ 1000) := fun k hk => by have := wrongB_no.1 (hwb k hk); omega
      have heb : ∀ k, k < L.length → (0 ≤ lv L k ∧ lv L k ≤ 10) ∧ (0 ≤ rtE L k ∧ rtE L k ≤ 10) := fun k hk => by
        have := ends_in hiv hk
        have := sets_len L
        omega
      have hlwn : lowTo cs L.length ≤ 0 ∧ -1000 ≤ lowTo cs L.length := low_bd (fun j hj => by have := wrongB_no.1 (hwb j hj); omega) L.length (Nat.le_refl _)
      have HE : Hid (∀ W, Rd W a3 L → Calls Try.prog 15 #[.agg #[.int .i64 (L.length : Int), .slice a3 L.length c3]] W fun e w' => ∃ a'' c'', e = .returned (.tuple #[.slice a'' L.length c'', .bool true]) ∧ OwnV w' W.heap.size (.slice a'' L.length c'') L.length (endp L L.length) ∧ Below W.heap.size W w') := fun W h => by
        have := iEnds_any (L.length : Int) a3 L c3 W hnn h
        unfold GotV at this
        rw [endN, endL, hiv, if_pos rfl, if_pos rfl] at this
        exact this
      have HS : Hid (∀ W, Rd W a3 L → Calls Try.prog 16 #[.agg #[.int .i64 (L.length : Int), .slice a3 L.length c3]] W fun e w' => ∃ a'' c'', e = .returned (.tuple #[.slice a'' L.length c'', .bool true]) ∧ OwnV w' W.heap.size (.slice a'' L.length c'') L.length (endp L L.length) ∧ Below W.heap.size W w') := fun W h => by
        have := sEnds_any (L.length : Int) a3 L c3 W hnn h
        unfold GotV at this
        rw [endN, endL, hiv, if_pos rfl, if_pos rfl] at this
        exact this
      have hel : (endp L L.length).length = L.length * 2 := prs_len _ _ _
      have HDR : Hid (∀ W a' c', Rd W a' (endp L L.length) → Rd W a3 L → Calls Try.prog 17 #[.slice a' L.length c', .agg #[.int .i64 (L.length : Int), .slice a3 L.length c3]] W fun e w' => e = .returned (.tuple #[.bool true, .bool true]) ∧ Below W.heap.size W w') := fun W a' c' h h2 => by
        have := iDoRep_any a' (endp L L.length) L.length c' (L.length : Int) a3 L c3 W h hel (by omega) hnn h2
        have e5 : drOk (endp L L.length) L.length (L.length : Int) L = true := by rw [drOk, hgdE, isIv_ord hiv]; rfl
        rw [drB, e5, hrp, eqL, decide_eq_true rfl] at this
        exact this
      have HLE : Hid (∀ W a' c', Rd W a' (endp L L.length) → Calls Try.prog 18 #[.slice a' L.length c'] W fun e w' => e = .returned (.tuple #[.bool true, .bool true]) ∧ Below W.heap.size W w') := fun W a' c' h => by
        have := iLeast_any a' (endp L L.length) L.length c' W h hel (by omega)
        rw [leastB, hgdE, hrp, eqL, decide_eq_true rfl] at this
        exact this
      have HLG : Hid (∀ W, Rd W a cs → Calls Try.prog 18 #[.slice a L.length cap] W fun e w' => e = .returned (.tuple #[.bool (eqL cs (endp L L.length)), .bool true]) ∧ Below W.heap.size W w') := fun W h => by
        have := iLeast_any a cs L.length cap W h hcl (by omega)
        rw [leastB, hgd, ← e2, Bool.true_and] at this
        exact this
      have HLT : Hid (∀ k, k < L.length → lft (endp L L.length) k = lv L k ∧ rgt (endp L L.length) k = rtE L k) := fun k hk => ⟨prs_lft _ _ hk, prs_rgt _ _ hk⟩
      have HEL := Lib.hid hel
      have HLW := Lib.hid hlw
      have HPR := Lib.hid hpr
      have HCB := Lib.hid hcb
      have HEB := Lib.hid heb
      have HLS : Hid (∀ k, lowTo cs (k+1) = if lft cs k < lowTo cs k then lft cs k else lowTo cs k) := fun k => rfl
      have hc3 := HC.out
      generalize endp L L.length = E at HE HS HDR HLE HLG HLT HEL
      have hL9 : L.length ≤ 10 := hn10
      clear hgd hwb e2 hll hiv hrp hgdE hcl hpr hel hcb heb hlw HCL HG HN HL HEQ hGG hc3
      go_wp2_with fail
      refine (HE.out _ HC.out).mono ?_
      rintro e w7 ⟨a7, c7, rfl, ho7, hb7⟩
      try clear zX cX dX
      replace HB := Lib.hid (HB.out.trans (hb7.mono HB.out.size))
      replace HX := Lib.hid (HX.out.below hb7)
      replace HR := Lib.hid (HR.out.below hb7)
      replace HC := Lib.hid (HC.out.below hb7)
      have ⟨zX, cX, dX⟩ := HX.out
      clear hb7
      have HV := Lib.hid (ho7.rd (by omega))
      clear ho7
      go_wp2_with fail
      refine (HS.out _ HC.out).mono ?_
      rintro e w8 ⟨a8, c8, rfl, ho8, hb8⟩
      try clear zX cX dX
      replace HB := Lib.hid (HB.out.trans (hb8.mono HB.out.size))
      replace HX := Lib.hid (HX.out.below hb8)
      replace HR := Lib.hid (HR.out.below hb8)
      replace HC := Lib.hid (HC.out.below hb8)
      replace HV := Lib.hid (HV.out.below hb8)
      have ⟨zX, cX, dX⟩ := HX.out
      clear hb8
      have HU := Lib.hid (ho8.rd (by omega))
      clear ho8 HE HS
      go_wp2_with fail
      refine (HDR.out _ a7 c7 HV.out HC.out).mono ?_
      rintro e w9 ⟨rfl, hb9⟩
      try clear zX cX dX
      replace HB := Lib.hid (HB.out.trans (hb9.mono HB.out.size))
      replace HX := Lib.hid (HX.out.below hb9)
      replace HR := Lib.hid (HR.out.below hb9)
      replace HC := Lib.hid (HC.out.below hb9)
      replace HV := Lib.hid (HV.out.below hb9)
      replace HU := Lib.hid (HU.out.below hb9)
      have ⟨zX, cX, dX⟩ := HX.out
      clear hb9
      go_wp2_with fail
      refine (HLE.out _ a7 c7 HV.out).mono ?_
      rintro e w10 ⟨rfl, hb10⟩
      try clear zX cX dX
      replace HB := Lib.hid (HB.out.trans (hb10.mono HB.out.size))
      replace HX := Lib.hid (HX.out.below hb10)
      replace HR := Lib.hid (HR.out.below hb10)
      replace HC := Lib.hid (HC.out.below hb10)
      replace HV := Lib.hid (HV.out.below hb10)
      replace HU := Lib.hid (HU.out.below hb10)
      have ⟨zX, cX, dX⟩ := HX.out
      clear hb10
      go_wp2_with fail
      refine ((pSameV_same a7 a8 E L.length c7 c8 _ HV.out HU.out HEL.out (by omega))).mono ?_
      rintro e w11 ⟨rfl, hb11⟩
      try clear zX cX dX
      replace HB := Lib.hid (HB.out.trans (hb11.mono HB.out.size))
      replace HX := Lib.hid (HX.out.below hb11)
      replace HR := Lib.hid (HR.out.below hb11)
      replace HC := Lib.hid (HC.out.below hb11)
      replace HV := Lib.hid (HV.out.below hb11)
      replace HU := Lib.hid (HU.out.below hb11)
      have ⟨zX, cX, dX⟩ := HX.out
      clear hb11
      clear HU HDR HLE
      go_wp2_with fail
      have HBB := HB
      have HVV := HV
      have HRR := HR
      go_loopw [18, 108] (fun m i wr => ∃ k : Nat, k ≤ L.length ∧ i = .int .i64 k ∧ m = .int .i64 (lowTo cs k) ∧ Below w11.heap.size w11 wr) (fun _ i _ => L.length - (intOf i).toNat)
      case atStart => exact ⟨0, Nat.zero_le _, rfl, rfl, Below.refl _ _⟩
      case round =>
        obtain ⟨k, hk, rfl, rfl, hb⟩ := hrel
        have HT := Lib.hid hb
        by_cases hlt : k < L.length
        · have k1 : (k : Int) < (L.length : Int) := by omega
          have hls := HLS.out k
          obtain ⟨b1, o1, rfl, hb1, hc1, hc2⟩ := (HRR.out.below hb).pair HCLX.out hlt
          generalize lowTo cs k = m0 at hls ⊢
          generalize lft cs k = l0 at hls hc1
          generalize rgt cs k = r0 at hc2
          clear hb
          by_cases hlm : l0 < m0
          · rw [if_pos hlm] at hls
            have HLN := Lib.hid hls
            clear hls
            go_wp2_with fail
            go_roundw
            case rel => exact ⟨k + 1, by omega, by go_num, by rw [HLN.out], HT.out.alloc HT.out.size _⟩
            case measure => simp [intOf]; omega
          · rw [if_neg hlm] at hls
            have HLN := Lib.hid hls
            clear hls
            go_wp2_with fail
            go_roundw
            case rel => exact ⟨k + 1, by omega, by go_num, by rw [HLN.out], HT.out.alloc HT.out.size _⟩
            case measure => simp [intOf]; omega
        · obtain rfl : k = L.length := by omega
          clear hb
          have hlb := hlwn
          generalize lowTo cs L.length = low at hlb HPR
          have HBk := Lib.hid (HB.out.trans (HT.out.mono HB.out.size))
          go_wp2_with fail
          go_loopw [121] (fun i wr => ∃ k : Nat, k ≤ L.length ∧ i = .int .i64 k ∧ Below w11.heap.size w11 wr) (fun i _ => L.length - (intOf i).toNat)
          case atStart => exact ⟨0, Nat.zero_le _, rfl, HT.out⟩
          case round =>
            obtain ⟨k, hk, rfl, hb⟩ := hrel
            have HU := Lib.hid hb
            by_cases hlt : k < L.length
            · have k1 : (k : Int) < (L.length : Int) := by omega
              obtain ⟨b1, o1, rfl, hb1, hc1, hc2⟩ := (HRR.out.below hb).pair HCLX.out hlt
              obtain ⟨b2, o2, rfl, hb2, hc3, hc4⟩ := (HVV.out.below hb).pair HEL.out hlt
              rw [(HLT.out k hlt).1] at hc3
              rw [(HLT.out k hlt).2] at hc4
              have hpk := HPR.out k hlt
              have hbk := HCB.out k hlt
              have hek := HEB.out k hlt
              generalize lft cs k = l0 at hc1 hpk hbk
              generalize rgt cs k = r0 at hc2 hpk hbk
              generalize lv L k = l1 at hc3 hpk hek
              generalize rtE L k = r1 at hc4 hpk hek
              have n1 : ¬ l0 - low < l1 := by omega
              have n2 : ¬ r0 - low < r1 := by omega
              have e1 : IntKind.i64.wrap (l0 - low) = l0 - low := wrap64_small _ (by omega) (by omega)
              have e2 : IntKind.i64.wrap (r0 - low) = r0 - low := wrap64_small _ (by omega) (by omega)
              clear hb hpk hbk hek
              go_wp2_with fail
              go_quiet (fail)
              go_wp2_with fail
              go_roundw
              case rel => exact ⟨k + 1, by omega, by go_num, (HU.out.alloc HU.out.size _).trans (Joins.below_draws _ _ _)⟩
              case measure => simp [intOf]; omega
            · obtain rfl : k = L.length := by omega
              have HRz := Lib.hid (HRR.out.below HU.out)
              have HVz := Lib.hid (HVV.out.below HU.out)
              have HBz := Lib.hid (HB.out.trans (HU.out.mono HB.out.size))
              have HEE : Hid (∀ b : Bool, (b == b) = true) := fun b => by simp
              clear hb
              go_wp2_with fail
              refine (HLG.out _ HRz.out).mono ?_
              rintro e w12 ⟨rfl, hb12⟩
              have HRy := Lib.hid (HRz.out.below hb12)
              have HVy := Lib.hid (HVz.out.below hb12)
              have HBy := Lib.hid (HBz.out.trans (hb12.mono HBz.out.size))
              clear hb12
              go_wp2_with fail
              refine (pSameV_eq a a7 cs E L.length cap c7 _ HRy.out HVy.out HCLX.out HEL.out (by omega)).mono ?_
              rintro e w13 ⟨rfl, hb13⟩
              have HBx := Lib.hid (HBy.out.trans (hb13.mono HBy.out.size))
              have heb := HEE.out (eqL cs E)
              generalize eqL cs E = QQ at heb
              clear hb13
              go_wp2_with fail
              go_ret
              exact ⟨rfl, HBx.out⟩

theorem rd_of_trod {H : Type} {enc : TypeId × Value → H} {W : World} {fuel : Nat} {c : Value} {y : DataW H × List MemPlace}
    (h : DataW.trod enc Try.prog W 0 (fun _ => true) true fuel 26 [c] = some y) : ∃ (a : Option Addr) (xs : List Int) (cap : Nat), c = .slice a xs.length cap ∧ Rd W a xs ∧ ∀ k, k < xs.length → (Lit.int .i64 (nth xs k)).wf = true := by
  rcases Go.ChangeShapes.open_ints Try.underlying26 Try.underlying3 (by kernel_rfl) h with ⟨hcs, _⟩ | ⟨x, len, cap, zs, hcs, _, hl, hm, hz, _, hcell, hwf⟩
  · simp only [List.cons.injEq, and_true] at hcs
    exact ⟨none, [], 0, hcs, ⟨by simp, fun k hk => by simp at hk⟩, fun k hk => by simp at hk⟩
  · simp only [List.cons.injEq, and_true] at hcs
    simp only [if_true] at hz
    have hlen : (zs.take len).length = len := by rw [List.length_take]; omega
    have hn : ∀ k, k < len → nth (zs.take len) k = zs.getD k 0 := by
      intro k hk
      simp only [nth, List.getD_eq_getElem?_getD, List.getElem?_take, hk, if_true]
    refine ⟨some x, zs.take len, cap, by rw [hlen]; exact hcs, ⟨by rw [hlen]; unfold maxLen at hm; omega, fun k hk => ?_⟩, fun k hk => ?_⟩
    · rw [hlen] at hk
      obtain ⟨b, off, sp⟩ := x
      have h0 := hcell 0 (by omega)
      have hsp : sp = none := by simpa [Addr.add] using World.cell?_spot h0
      subst hsp
      have hk' := hcell k (by omega)
      rw [Addr.add_lit] at hk'
      exact ⟨b, off, rfl, World.block_lt_of_cell? _ _ h0, by rw [hk', hn k hk]⟩
    · rw [hlen] at hk
      rw [hn k hk]
      have hk2 : k < zs.length := by omega
      exact hwf _ (by rw [List.getD_eq_getElem?_getD, List.getElem?_eq_getElem hk2]; exact List.getElem_mem hk2)

theorem own : ownKnob Try.prog.godebug = none := by kernel_rfl
theorem laidOut : laidOutB Try.prog = true := by kernel_rfl
theorem wf_bd {n : Int} (h : (Lit.int .i64 n).wf = true) : -9223372036854775808 ≤ n ∧ n ≤ 9223372036854775807 := by
  simp [Lit.wf, IntKind.min, IntKind.max, IntKind.bits, IntKind.signed] at h
  omega

theorem wf_byte {n : Int} (h : (Lit.int .u8 n).wf = true) : 0 ≤ n ∧ n ≤ 255 := by
  simp [Lit.wf, IntKind.min, IntKind.max, IntKind.bits, IntKind.signed] at h
  omega
/-- a slice of bytes that was handed over -/
theorem rdB_of_trod {H : Type} {enc : TypeId × Value → H} {W : World} {fuel : Nat} {c : Value} {y : DataW H × List MemPlace}
    (h : DataW.trod enc Try.prog W 0 (fun _ => true) true fuel 22 [c] = some y) : ∃ (a : Option Addr) (n cap : Nat), c = .slice a n cap ∧ RdB W a n ∧ n ≤ 9223372036854775807 := by
  rcases Go.ChangeShapes.open_ints Try.underlying22 Try.underlying5 (by kernel_rfl) h with ⟨hcs, _⟩ | ⟨x, len, cap, zs, hcs, _, hl, hm, hz, _, hcell, hwf⟩
  · simp only [List.cons.injEq, and_true] at hcs
    exact ⟨none, 0, 0, hcs, ⟨fun k hk => by omega⟩, by omega⟩
  · simp only [List.cons.injEq, and_true] at hcs
    simp only [if_true] at hz
    refine ⟨some x, len, cap, hcs, ⟨fun k hk => ?_⟩, by unfold maxLen at hm; omega⟩
    obtain ⟨b, off, sp⟩ := x
    have h0 := hcell 0 (by omega)
    have hsp : sp = none := by simpa [Addr.add] using World.cell?_spot h0
    subst hsp
    have hk' := hcell k (by omega)
    rw [Addr.add_lit] at hk'
    have hk2 : k < zs.length := by omega
    have hw := hwf _ (show zs.getD k 0 ∈ zs by rw [List.getD_eq_getElem?_getD, List.getElem?_eq_getElem hk2]; exact List.getElem_mem hk2)
    refine ⟨b, off, rfl, World.block_lt_of_cell? _ _ h0, zs.getD k 0, hk', ?_⟩
    exact wf_byte hw

open Go.ChangeShapes Go.WideShapes Go.ChangeAt Go.RowKit in
set_option maxRecDepth 100000 in
theorem lifted (os : Os) (started : os.Started) (H : Type) (enc : TypeId × Value → H) :
    ReturnsInHanded {} Try.checked os 3 .any (Rows.fnEndsAreLeastSpec.pre6 enc Try.prog Try.f3 Rows.fnEndsAreLeastRow.domain false) (Rows.fnEndsAreLeastSpec.post enc Try.prog Try.f3 false true false false) := by
  refine returnsInHanded_of_change (C := Try.checked) own started (by kernel_rfl) Try.func3
    (ChangeSpec.witness6 (enc := enc) (C := Try.checked) false ⟨#[], #[.slice none 0 0, .slice none 0 0], []⟩ 8 (by kernel_rfl) (by kernel_rfl) (by kernel_rfl) (by kernel_rfl)) ?_
  intro W base args ds gs before hval0 hW hcnd _
  have hval : ∀ (j : Nat) t v, Try.f3.params[j]? = some t → args[j]? = some v → Value.okWide Try.prog W .any base t v := hval0
  have hW' := hW
  obtain ⟨p, q, hA0, hV, rfl, hfz, hnd⟩ := hW
  have hA : DataW.TrodAll enc Try.prog W 0 (fun _ => true) true Try.f3.params.toList args.toList ds p := hA0
  rw [Try.params3] at hA hval
  obtain ⟨v0, vs0, d0, ds0, p0, q0, hargs, rfl, rfl, h0, r0⟩ := trodAll_cons hA
  obtain ⟨v1, vs1, d1, ds1, p1, q1, rfl, rfl, rfl, h1, r1⟩ := trodAll_cons r0
  obtain ⟨rfl, rfl, rfl⟩ := trodAll_nil r1
  obtain rfl : args = #[v0, v1] := by cases args; simp_all
  obtain ⟨rfl, rfl⟩ := trodVars_none hV
  have lt0 : ∀ x ∈ p0, x.block < W.heap.size := by obtain ⟨m, hm⟩ := h0; exact DataW.trod_lt m _ _ _ hm
  have lt1 : ∀ x ∈ p1, x.block < W.heap.size := by obtain ⟨m, hm⟩ := h1; exact DataW.trod_lt m _ _ _ hm
  obtain ⟨a0, len0, cap0, rfl⟩ := okWide_slice Try.underlying22 (hval 0 22 v0 rfl rfl)
  obtain ⟨a0, n0, cap0, e0, rd0, ln0⟩ := (by obtain ⟨fu, hf⟩ := h0; simp only [Value.cells] at hf; exact rdB_of_trod hf : ∃ (a : Option Addr) (n cap : Nat), Value.slice a0 len0 cap0 = .slice a n cap ∧ RdB W a n ∧ n ≤ 9223372036854775807)
  simp only [Value.slice.injEq] at e0
  obtain ⟨rfl, rfl, rfl⟩ := e0
  obtain ⟨a1, len1, cap1, rfl⟩ := okWide_slice Try.underlying22 (hval 1 22 v1 rfl rfl)
  obtain ⟨a1, n1, cap1, e1, rd1, ln1⟩ := (by obtain ⟨fu, hf⟩ := h1; simp only [Value.cells] at hf; exact rdB_of_trod hf : ∃ (a : Option Addr) (n cap : Nat), Value.slice a1 len1 cap1 = .slice a n cap ∧ RdB W a n ∧ n ≤ 9223372036854775807)
  simp only [Value.slice.injEq] at e1
  obtain ⟨rfl, rfl, rfl⟩ := e1
  clear hA0 hval0
  refine (walk a0 len0 cap0 a1 len1 cap1 W rd0 ln0 rd1 ln1).mono fun e W' ⟨he, bel⟩ => ?_
  subst he
  exact ⟨_, rfl, _, _, _, [], _, [], hW', trodAll_mk1 (shut_bool Try.underlying4 _), (trodAll_cons_mk (Below.trod laidOut (by kernel_rfl) (of_decide_eq_true (by kernel_rfl)) h0 bel lt0) (trodAll_cons_mk (Below.trod laidOut (by kernel_rfl) (of_decide_eq_true (by kernel_rfl)) h1 bel lt1) trodAll_mk0)), rfl, bel.frame _, fun h => by cases h⟩
theorem proved : Rows.FnEndsAreLeastSaid :=
  OpenClaim.holds_of_wide 3 Try.f3 rfl rfl rfl rfl rfl rfl rfl ⟨rfl, rfl, rfl, rfl, rfl⟩ rfl rfl rfl rfl rfl (by kernel_rfl) Try.func3 (by kernel_rfl)
    (of_decide_eq_true (by kernel_rfl)) (by unfold Func.isWrapper; first | (rw [if_pos (by decide +kernel)]; kernel_rfl) | (rw [if_neg (by decide +kernel)]; exact ⟨rfl, rfl⟩))
    (fun os started H enc _ => lifted os started H enc)

end Go.Proofs.Ytdmhjmcljpladaa.endsAreLeast
