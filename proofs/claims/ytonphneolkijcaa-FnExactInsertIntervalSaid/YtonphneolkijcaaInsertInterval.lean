/- PROVED: the law FnExactInsertInterval returns true for every input, and each of its arguments reads afterwards as before. No conditions. -/
import Derived.Test.YtonphneolkijcaaRows
import Derived.WalkKit
import Derived.WalkSpells
import Derived.WalkLawsBesides
import Derived.Deep.QuietTactic
import Derived.BigQuiet
import Derived.ProofKit
import Derived.OpenShut
import Derived.ShutString
import Derived.ChangeOld
import Derived.Below
import Derived.Lib.SmallJoins
import Derived.Lib.Hide
import Derived.Deep.AppendLies
import Derived.Deep.RegionLaw
import Derived.Shelf.Small.Bits
import Derived.Shelf.Small.Wraps
import Derived.Shelf.Strconv.Itoa0
import Derived.Shelf.Sort.Plain
import Derived.Shelf.Slices.Turned
import Derived.Shelf.Slices.Reverse
import Derived.Shelf.Slices.Equal
import Derived.Shelf.Slices.CompactI
import Derived.Shelf.Slices.SearchI
import Derived.Shelf.Slices.Cells
import Derived.Shelf.Slices.In.SortNone
import Derived.Shelf.Slices.Empties2
import Derived.Shelf.SlicesE.Reverse
import Derived.Sort.OwnSortedInts
import Derived.Lib.SlicesCompact
import Derived.Lib.RowBridge
import Derived.Deep.RegionHeld3
import Derived.Deep.DeepCutAuto
import Derived.Test.YtonphneolkijcaaInsertIntervalP1
namespace Go.Proofs.Ytonphneolkijcaa.insertInterval
open Go Go.RowKit
set_option linter.unusedVariables false
set_option linter.unusedSimpArgs false
set_option maxHeartbeats 400000
open Go.Shelf
open Go.Sort Go.RowKit in
theorem Sh_slices_Sort_int (blk off cap : Nat) (zs : List Int) (w : World) (hH : Holds (Value.int .i64) w blk off zs.toArray) (hblk : blk < w.heap.size) (hsz : zs.length < 4611686018427387904) :
    Calls Try.prog 119 #[.slice (some ⟨blk, off, none⟩) zs.length cap] w fun e w' =>
      e = .returned (.tuple #[]) ∧ ∃ n os, w' = grow (putRow (Value.int .i64) (Sort.ahead w n) blk off (zs.mergeSort fun x y => decide (x ≤ y)).toArray) os := Any.slices_Sort_int Sh_lays189 blk off cap zs w hH hblk hsz

open Go.RowKit Go.Sort in
theorem Sh_slices_Sort_int_none (p : Option Addr) (cap : Nat) (w : World) :
    Calls Try.prog 119 #[.slice p 0 cap] w fun e w' => e = .returned (.tuple #[]) ∧ w' = w := Any.slices_Sort_int_none Sh_lays189 p cap w

theorem sortOwn (a : Option Addr) (cap : Nat) (xs : List Int) (B : Nat) (w : World) (hl : xs.length ≤ 1048576) (ho : OwnI w B (.slice a xs.length cap) xs) :
    Calls Try.prog 119 #[.slice a xs.length cap] w fun e w' => e = .returned (.tuple #[]) ∧ OwnI w' B (.slice a (srt xs).length cap) (srt xs) ∧ w.grownBy w' (Value.slice a xs.length cap).ownBlock := by
  rcases ho.2 with ⟨e0, h0⟩ | ⟨g, cap', cur, e0, hbase, hb, h1, h2, h3, h4⟩
  · have hx : xs = [] := List.length_eq_zero_iff.1 h0
    subst hx
    refine (Sh_slices_Sort_int_none a cap w).mono ?_
    rintro e w' ⟨rfl, rfl⟩
    exact ⟨rfl, by rw [show srt [] = [] from by simp [srt]]; exact ho, World.grownBy.refl _ _⟩
  · simp only [Value.slice.injEq] at e0
    obtain ⟨rfl, -, rfl⟩ := e0
    have hh := Go.holds_of_blockI (ss := xs) hb (by simpa using h4)
    refine (Sh_slices_Sort_int g 0 cap xs w hh ((Array.getElem?_eq_some_iff.1 hb).1) (by omega)).mono ?_
    rintro e w' ⟨rfl, nn, os, rfl⟩
    refine ⟨rfl, ?_, Go.grownBy_sortedI _⟩
    have := Go.ownsRow_sortedI (n := nn) (os := os) (ss := xs) (ts := srt xs) (srt_len xs) hbase hb h1 h2 h3
    unfold OwnI
    rw [srt_len]
    exact this

theorem ownsRow_cut {w : World} {B g n cap m : Nat} {t : TypeId} {xs : List Value} (h : w.ownsRow B t 1 (.slice (some ⟨g, 0, none⟩) n cap) n xs) (hm : m ≤ n) : w.ownsRow B t 1 (.slice (some ⟨g, 0, none⟩) m cap) m (xs.take m) := by
  have hl := h.1
  rcases h.2 with ⟨e0, _⟩ | ⟨g', cap', cur, e0, hbase, hb, h1, h2, h3, h4⟩
  · cases e0
  · simp only [Value.slice.injEq, Option.some.injEq, Addr.mk.injEq, and_true] at e0
    obtain ⟨rfl, -, rfl⟩ := e0
    refine ⟨by rw [List.length_take]; omega, .inr ⟨g, cap, cur, rfl, hbase, hb, by omega, h2, h3, ?_⟩⟩
    rw [← h4, List.take_take]
    congr 1
    omega

def Sh_laysNm220_ren : Go.Shelf.Ren := ⟨fun | 20 => 120 | n => n, fun | 22 => 23 | 3 => 3 | 4 => 4 | 0 => 0 | n => n, fun | n => n⟩
theorem Sh_laysNm220 : Go.Proofs.Lays2.n20 Try.prog Sh_laysNm220_ren := {
  mixed := by kernel_rfl
  f20 := Try.func120.trans (congrArg some (by kernel_rfl))
  t0 := Try.underlying0
  a0 := Try.isAgg0
  z0 := Try.sizeOf0
  v0 := Try.zeroValue0
  t3 := Try.underlying3
  a3 := Try.isAgg3
  z3 := Try.sizeOf3
  v3 := Try.zeroValue3
  t4 := Try.underlying4
  a4 := Try.isAgg4
  z4 := Try.sizeOf4
  v4 := Try.zeroValue4
  t22 := Try.underlying23
  a22 := Try.isAgg23
  z22 := Try.sizeOf23
  v22 := Try.zeroValue23
  i3 := by kernel_rfl }

open Go.RowKit Go.Lib Go.Sort in
theorem Sh_slices_Compact_int (blk off cap : Nat) (zs : List Int) (w : World) (hH : Holds (Value.int .i64) w blk off zs.toArray) (hsz : zs.length ≤ 9223372036854775807) (hcap : zs.length ≤ cap) :
    Calls Try.prog 120 #[.slice (some ⟨blk, off, none⟩) zs.length cap] w fun e w' => e = .returned (.slice (some ⟨blk, off, none⟩) (Lib.compact zs).length cap) ∧ ∃ q, w' = putRow (Value.int .i64) (Sort.ahead w q) blk off (Lib.compact zs ++ List.replicate (zs.length - (Lib.compact zs).length) 0).toArray := Any.slices_Compact_int Sh_laysNm220 blk off cap zs w hH hsz hcap

open Go.RowKit Go.Lib Go.Sort in
theorem Sh_slices_Compact_int_empty (a : Option Addr) (cap : Nat) (w : World) :
    Calls Try.prog 120 #[.slice a 0 cap] w fun e w' => e = .returned (.slice a 0 cap) ∧ w' = w := Any.slices_Compact_int_empty Sh_laysNm220 a cap w

theorem compactOwn (a : Option Addr) (cap : Nat) (xs : List Int) (B : Nat) (w : World) (ho : OwnI w B (.slice a xs.length cap) xs) :
    Calls Try.prog 120 #[.slice a xs.length cap] w fun e w' => e = .returned (.slice a (Go.Lib.compact xs).length cap) ∧ OwnI w' B (.slice a (Go.Lib.compact xs).length cap) (Go.Lib.compact xs) ∧ w.grownBy w' (Value.slice a xs.length cap).ownBlock := by
  rcases ho.2 with ⟨e0, h0⟩ | ⟨g, cap', cur, e0, hbase, hb, h1, h2, h3, h4⟩
  · have hx : xs = [] := List.length_eq_zero_iff.1 h0
    subst hx
    refine (Sh_slices_Compact_int_empty a cap w).mono ?_
    rintro e w' ⟨rfl, rfl⟩
    exact ⟨rfl, ho, World.grownBy.refl _ _⟩
  · simp only [Value.slice.injEq] at e0
    obtain ⟨rfl, -, rfl⟩ := e0
    have hh := Go.holds_of_blockI (ss := xs) hb (by simpa using h4)
    have hcl := Go.Lib.compact_length_le xs
    refine (Sh_slices_Compact_int g 0 cap xs w hh (by unfold maxLen at h2; omega) h1).mono ?_
    rintro e w' ⟨rfl, nn, rfl⟩
    have hg := Go.grownBy_sortedI (w := w) (g := g) (n := nn) (os := #[]) (Go.Lib.compact xs ++ List.replicate (xs.length - (Go.Lib.compact xs).length) 0).toArray
    have ho := Go.ownsRow_sortedI (n := nn) (os := #[]) (ss := xs) (ts := Go.Lib.compact xs ++ List.replicate (xs.length - (Go.Lib.compact xs).length) 0) (by rw [List.length_append, List.length_replicate]; omega) hbase hb h1 h2 h3
    rw [Go.Sort.grow_empty] at hg ho
    refine ⟨rfl, ?_, hg⟩
    have hc := ownsRow_cut ho hcl
    have e1 : (List.map (Value.int .i64) (Go.Lib.compact xs ++ List.replicate (xs.length - (Go.Lib.compact xs).length) 0)).take (Go.Lib.compact xs).length = (Go.Lib.compact xs).map (Value.int .i64) := by
      rw [← List.map_take, List.take_left']
      rfl
    rw [e1] at hc
    exact hc

theorem bang (l : List Int) {j : Nat} (h : j < l.length) : l.toArray[j]! = nth l j := by
  rw [getElem!_pos l.toArray j (by simpa using h), nth_get l j h]; simp
theorem cu_inc {l : List Int} (h : l.Pairwise (· ≤ ·)) : ∀ m, m ≤ l.length → Inc (Go.Lib.compactUpTo l.toArray m) ∧ (∀ x, x ∈ Go.Lib.compactUpTo l.toArray m ↔ ∃ j, j < m ∧ nth l j = x)
  | 0, _ => ⟨List.Pairwise.nil, fun x => by simp [Go.Lib.compactUpTo]⟩
  | m+1, hm => by
    obtain ⟨h1, h2⟩ := cu_inc h m (by omega)
    have hle : ∀ i j, i ≤ j → j < l.length → nth l i ≤ nth l j := fun i j hij hj => by
      rw [nth_get _ _ (by omega), nth_get _ _ hj]
      rcases Nat.lt_or_eq_of_le hij with h3 | rfl
      · exact (List.pairwise_iff_getElem.1 h) i j (by omega) hj h3
      · exact Int.le_refl _
    rw [Go.Lib.compactUpTo_succ, bang l (by omega)]
    cases hk : Go.Lib.keeps l.toArray m
    · rw [if_neg (by simp), List.append_nil]
      refine ⟨h1, fun x => ?_⟩
      rw [h2]
      constructor
      · rintro ⟨j, hj, e⟩
        exact ⟨j, by omega, e⟩
      · rintro ⟨j, hj, e⟩
        by_cases e2 : j = m
        · subst e2
          simp only [Go.Lib.keeps, decide_eq_false_iff_not, not_or, ne_eq, Classical.not_not] at hk
          rw [bang l (by omega), bang l (by omega)] at hk
          exact ⟨j - 1, by omega, by rw [← hk.2]; exact e⟩
        · exact ⟨j, by omega, e⟩
    · rw [if_pos rfl]
      constructor
      · unfold Inc
        rw [List.pairwise_append]
        refine ⟨h1, List.pairwise_singleton _ _, fun a ha b hb => ?_⟩
        rw [List.mem_singleton] at hb
        subst hb
        obtain ⟨j, hj, rfl⟩ := (h2 a).1 ha
        simp only [Go.Lib.keeps, decide_eq_true_eq] at hk
        rw [bang l (by omega), bang l (by omega)] at hk
        have hne : nth l m ≠ nth l (m - 1) := hk.resolve_left (by omega)
        have := hle j (m - 1) (by omega) (by omega)
        have := hle (m - 1) m (by omega) (by omega)
        omega
      · intro x
        rw [List.mem_append, h2, List.mem_singleton]
        constructor
        · rintro (⟨j, hj, e⟩ | e)
          · exact ⟨j, by omega, e⟩
          · exact ⟨m, by omega, e.symm⟩
        · rintro ⟨j, hj, e⟩
          by_cases e2 : j = m
          · subst e2; exact .inr e.symm
          · exact .inl ⟨j, by omega, e⟩
theorem compact_inc {l : List Int} (h : l.Pairwise (· ≤ ·)) : Inc (Go.Lib.compact l) := (cu_inc h l.length (Nat.le_refl _)).1
theorem compact_mem {l : List Int} (h : l.Pairwise (· ≤ ·)) (x : Int) : x ∈ Go.Lib.compact l ↔ x ∈ l := by
  have := (cu_inc h l.length (Nat.le_refl _)).2 x
  rw [Go.Lib.compact, this]
  constructor
  · rintro ⟨j, hj, rfl⟩
    rw [nth_get _ _ hj]; exact List.getElem_mem _
  · intro hx
    obtain ⟨j, hj, rfl⟩ := List.getElem_of_mem hx
    exact ⟨j, hj, nth_get _ _ hj⟩

theorem belowSet_any (n : Int) (a : Option Addr) (xs : List Int) (cap : Nat) (i : Int) (w : World) (hx : Rd w a xs) (hr : RelP n xs) (hi : 0 ≤ i) :
    Calls Try.prog 116 #[.agg #[.int .i64 n, .slice a xs.length cap], .int .i64 i] w fun e w' => e = .returned (.int .i64 (belowTo xs i xs.length)) ∧ Below w.heap.size w w' := by
  have hx1 := hx.alloc (.cells #[.int .i64 n, .slice a xs.length cap] 32)
  have hn : xs.length ≤ 10 := by have := hr.len; have := hr.n1; omega
  go_enter Try.func116, Try.ntmps116
  go_wp2_with fail
  go_loop [5, 11] (fun s i' => ∃ k : Nat, k ≤ xs.length ∧ i' = .int .i64 k ∧ s = .int .i64 (belowTo xs i k)) (fun _ i => xs.length - (intOf i).toNat)
  case atStart => exact ⟨0, Nat.zero_le _, rfl, rfl⟩
  case round =>
    obtain ⟨k, hk, rfl, rfl⟩ := hrel
    by_cases hlt : k < xs.length
    · obtain ⟨b, off, rfl, hbl, hc⟩ := hx1.cell k hlt
      obtain ⟨b', off', e', hbl', hc'⟩ := hx.cell k hlt
      simp only [Option.some.injEq, Addr.mk.injEq, and_true] at e'
      obtain ⟨rfl, rfl⟩ := e'
      have hpk := hr.pos k hlt
      have hsk : nth xs k ≤ 9223372036854775807 := by have := hr.small k hlt; omega
      have hbs := belowTo_small xs i (k := k) (by omega)
      have hor := Lib.hid (or_bit (b := belowTo xs i k) (k := k) (by omega) (by omega))
      clear hbs
      cases hin : hasB (nth xs k) i
      · go_wp2_with (go_at_call 92; refine (hasElement_any _ _ _ hpk hsk hi).mono ?_; rintro e w' ⟨rfl, rfl⟩)
        go_round
        case rel => exact ⟨k + 1, by omega, by go_num, by simp [belowTo, hin]⟩
        case measure => simp [intOf]; omega
      · go_wp2_with (go_at_call 92; refine (hasElement_any _ _ _ hpk hsk hi).mono ?_; rintro e w' ⟨rfl, rfl⟩)
        go_round
        case rel => exact ⟨k + 1, by omega, by go_num, val_int (by rw [hor.out]; simp [belowTo, hin])⟩
        case measure => simp [intOf]; omega
    · obtain rfl : k = xs.length := by omega
      go_wp2_with fail
      go_ret
      exact ⟨rfl, (by repeat (first | exact Below.refl _ _ | assumption | refine Below.alloc ?_ (by first | exact Nat.le_refl _ | (simp only [World.size_alloc, World.size_setCell, World.size_drew]; omega) | omega) _ | refine Below.setCell ?_ (by first | exact Nat.le_refl _ | (simp only [World.size_alloc, World.size_setCell, World.size_drew]; omega) | omega) _ | refine Below.drew ?_))⟩

theorem belowSets_any (n : Int) (a : Option Addr) (xs : List Int) (cap : Nat) (w : World) (hx : Rd w a xs) (hr : RelP n xs) :
    Calls Try.prog 106 #[.agg #[.int .i64 n, .slice a xs.length cap]] w fun e w' => ∃ a' cap', e = .returned (.slice a' xs.length cap') ∧ OwnI w' w.heap.size (.slice a' xs.length cap') (belows xs xs.length) ∧ Below w.heap.size w w' := by
  obtain ⟨i0, hi, hz0, hz1, hz2⟩ := info_parts infoInt
  have hn0 := hr.n0
  have hn1 := hr.n1
  obtain rfl : n = (xs.length : Int) := hr.len.symm
  have hn : xs.length ≤ 10 := by omega
  go_enter Try.func106, Try.ntmps106
  go_wp2_with (at_make; refine wpList_make_full _ rfl (.tmp 6) (.tmp 6) 23 rfl (w.heap.size + 1) 3 i0 (.int .i64 0) 1 Try.underlying23 hi hz0 hz1 .i64 .i64 _ _ xs.length rfl rfl rfl rfl (by rw [hz2]; omega) (by unfold maxLen; omega) (by simp) ?_; intro w1 hown hgrow)
  have hb0 : Below w.heap.size w w1 := ((Below.refl _ _).alloc (Nat.le_refl _) _).grown hgrow (by simp) (fun k h => by cases h)
  have hown0 := made_ints (fun i => ((belowTo xs i xs.length : Nat) : Int)) hown
  have B1 : Box2 w1 w.heap.size (.int .i64 (xs.length : Int)) (.slice a xs.length cap) := (Box2.new w _ _ _).kept hgrow (by simp)
  have hx1 : Rd w1 a xs := hx.below hb0
  clear hown hgrow
  simp only [World.size_alloc] at *
  have hz : w.heap.size + 1 < w1.heap.size := by
    have := (World.ownsRow.lt hown0 (w.heap.size + 1) rfl).2
    omega
  go_wp2_with fail
  go_loopw [10] (fun i wr => ∃ k : Nat, k ≤ xs.length ∧ i = .int .i64 k ∧ wr.ownsRow (w.heap.size + 1) 3 1 (.slice (some ⟨w.heap.size + 1, 0, none⟩) xs.length xs.length) xs.length ((fmap (fun i => ((belowTo xs i xs.length : Nat) : Int)) k ++ List.replicate (xs.length - k) (0:Int)).map (Value.int .i64)) ∧ Below w.heap.size w wr ∧ Box2 wr w.heap.size (.int .i64 (xs.length : Int)) (.slice a xs.length cap)) (fun i _ => xs.length - (intOf i).toNat)
  case atStart => exact ⟨0, Nat.zero_le _, rfl, hown0, hb0, B1⟩
  case round =>
    obtain ⟨k, hk, rfl, hown, hb, hB⟩ := hrel
    have ⟨zr, cr, dr⟩ := hB
    by_cases hlt : k < xs.length
    · go_wp2_with fail
      refine (belowSet_any _ _ _ _ _ _ (hx.below hb) hr (by omega)).mono ?_
      rintro e w2 ⟨rfl, hb2⟩
      have hown2 : w2.ownsRow (w.heap.size + 1) 3 1 (.slice (some ⟨w.heap.size + 1, 0, none⟩) xs.length xs.length) xs.length _ := World.ownsRow.kept hown (below_grown hb2 (Nat.le_refl _) none) (.inr (by simp [Value.ownBlock]))
      have hst := World.ownsRow.stored hown2 k (.int .i64 ((belowTo xs k xs.length : Nat) : Int))
      rw [fill_step (fun i => ((belowTo xs i xs.length : Nat) : Int)) xs.length k hlt] at hst
      have hcc := World.ownsRow.cellAt hown2 k (by omega)
      have hfr := World.ownsRow.frozenAt hown2 k
      have hcc' : ∃ u, w2.cell? ⟨w.heap.size + 1, k, none⟩ = some u := by
        rw [hcc]
        exact ⟨_, List.getElem?_eq_getElem (by simp [fmap_len]; omega)⟩
      obtain ⟨u, hu⟩ := hcc'
      have hB2 := hB.below hb2
      have hB3 := hB2.kept hst.2 (by simp)
      have hbw := hb.trans (hb2.mono hb.size)
      have Hst := Lib.hid hst
      clear hst hcc hown hown2 hb2
      go_wp2_with fail
      go_roundw
      case rel => exact ⟨k + 1, by omega, by go_num, Hst.out.1, hbw.setCell (by simp) _, hB3⟩
      case measure => simp [intOf]; omega
    · obtain rfl : k = xs.length := by omega
      go_wp2_with fail
      go_ret
      rw [fill_end] at hown
      refine ⟨_, _, rfl, OwnI.mono (B := w.heap.size + 1) ?_ (by omega), hb⟩
      show World.ownsRow _ _ _ _ _ _ _
      rw [belows_len]
      exact hown

theorem sets_eq (xs : List Int) : Go.Lib.compact (srt (belows xs xs.length)) = sets xs := by
  refine inc_ext (compact_inc (srt_le _)) (setsTo_inc xs _) (fun x => ?_)
  rw [compact_mem (srt_le _), srt_mem, sets, setsTo_mem]
  simp only [belows, fmap, List.mem_map, List.mem_range]
  constructor
  · rintro ⟨j, hj, e⟩
    exact ⟨j, hj, e.symm⟩
  · rintro ⟨j, hj, e⟩
    exact ⟨j, hj, e.symm⟩
theorem lowerSets_any (n : Int) (a : Option Addr) (xs : List Int) (cap : Nat) (w : World) (hx : Rd w a xs) (hr : RelP n xs) :
    Calls Try.prog 100 #[.agg #[.int .i64 n, .slice a xs.length cap]] w fun e w' => ∃ a' cap', e = .returned (.slice a' (sets xs).length cap') ∧ OwnI w' w.heap.size (.slice a' (sets xs).length cap') (sets xs) ∧ Below w.heap.size w w' := by
  have hx1 := hx.alloc (.cells #[.int .i64 n, .slice a xs.length cap] 32)
  have HE := Lib.hid (sets_eq xs)
  go_enter Try.func100, Try.ntmps100
  go_wp2_with fail
  refine (belowSets_any _ _ _ _ _ hx1 hr).mono ?_
  rintro e w1 ⟨a1, cap1, rfl, ho1, hb1⟩
  have bw1 : Below w.heap.size w w1 := Below.trans (by repeat (first | exact Below.refl _ _ | assumption | refine Below.alloc ?_ (by first | exact Nat.le_refl _ | (simp only [World.size_alloc, World.size_setCell, World.size_drew]; omega) | omega) _ | refine Below.setCell ?_ (by first | exact Nat.le_refl _ | (simp only [World.size_alloc, World.size_setCell, World.size_drew]; omega) | omega) _ | refine Below.drew ?_)) (hb1.mono (by first | (simp only [World.size_alloc, World.size_setCell, World.size_drew]; omega) | omega))
  have o1 : OwnI w1 w.heap.size (.slice a1 (belows xs xs.length).length cap1) (belows xs xs.length) := by
    rw [belows_len]; exact ho1.mono (by simp)
  clear hb1 ho1
  go_wp2_with fail
  have hs := sortOwn a1 cap1 (belows xs xs.length) w.heap.size w1 (by rw [belows_len]; have := hr.len; have := hr.n1; omega) o1
  rw [belows_len] at hs
  refine hs.mono ?_
  rintro e w2 ⟨rfl, ho2, hg2⟩
  clear hs
  have hU := o1.lt
  rw [belows_len] at hU
  have bw2 := bw1.trans (below_of_grown hg2 (fun b e => (hU b e).1) bw1.size)
  have hsl : (srt (belows xs xs.length)).length = xs.length := by rw [srt_len, belows_len]
  have HSL := Lib.hid hsl
  clear hg2 hU o1 hsl
  go_wp2_with fail
  have hc := compactOwn a1 cap1 (srt (belows xs xs.length)) w.heap.size w2 ho2
  rw [HSL.out, HE.out] at hc
  refine hc.mono ?_
  rintro e w3 ⟨rfl, ho3, hg3⟩
  clear hc
  have hU := ho2.lt
  rw [HSL.out] at hU
  have bw3 := bw2.trans (below_of_grown hg3 (fun b e => (hU b e).1) bw2.size)
  clear hg3 hU ho2
  go_wp2_with fail
  go_ret
  exact ⟨a1, cap1, rfl, ho3, bw3⟩

/-- a row of m integers of which the first k are filled, f 0 .. -/
def rowF (f : Nat → Int) (m k : Nat) : List Int := fmap f k ++ List.replicate (m - k) 0
theorem rowF_len (f : Nat → Int) {m k : Nat} (h : k ≤ m) : (rowF f m k).length = m := by simp [rowF, fmap_len]; omega
theorem rowF_set (f : Nat → Int) {m k : Nat} (h : k < m) : (rowF f m k).set k (f k) = rowF f m (k+1) := by
  apply List.ext_getElem?
  intro j
  rw [List.getElem?_set]
  by_cases hj : k = j
  · subst hj
    rw [if_pos rfl, if_pos (by rw [rowF_len f (by omega)]; exact h), rowF, List.getElem?_append_left (by rw [fmap_len]; omega)]
    simp [fmap]
  · simp only [hj, if_false, rowF, List.getElem?_append, fmap_len, List.getElem?_replicate]
    by_cases h1 : j < k
    · have h2 : j < k + 1 := by omega
      simp [h1, h2, fmap]
    · have h2 : ¬ j < k + 1 := by omega
      have h3 : j - k < m - k ↔ j - (k+1) < m - (k+1) := by omega
      simp [h1, h2, h3]
theorem rowF_zero (f : Nat → Int) {m k : Nat} (h : k < m) : (rowF f m k).set k 0 = rowF f m k := by
  apply List.ext_getElem?
  intro j
  rw [List.getElem?_set]
  by_cases hj : k = j
  · subst hj
    rw [if_pos rfl, if_pos (by rw [rowF_len f (by omega)]; exact h), rowF, List.getElem?_append_right (by rw [fmap_len]; omega)]
    rw [fmap_len, Nat.sub_self, List.getElem?_replicate, if_pos (by omega)]
  · simp [hj]
theorem rowF_end (f : Nat → Int) (m : Nat) : rowF f m m = fmap f m := by simp [rowF]
theorem made_row {w1 : World} {B : Nat} {v : Value} {m : Nat} (f : Nat → Int) (h : w1.ownsRow B 3 1 v m (madeCells (Value.int .i64 0).cells (m * 1)).toList) : OwnI w1 B v (rowF f m 0) := by
  unfold OwnI
  rw [rowF_len f (Nat.zero_le _)]
  simpa [Value.cells, toList_madeCells_one, fmap, rowF] using h

/-- one step of the closing: what is above k goes to i, if k is above i -/
def clStep (xs : List Int) (k i : Nat) : List Int := if hasB (nth xs i) k then xs.set i (((nth xs i).toNat ||| (nth xs k).toNat : Nat) : Int) else xs
def clRow (xs : List Int) (k : Nat) : Nat → List Int
  | 0 => xs
  | i+1 => clStep (clRow xs k i) k i
def clAll (xs : List Int) : Nat → List Int
  | 0 => xs
  | k+1 => clRow (clAll xs k) k xs.length
theorem clStep_len (xs : List Int) (k i : Nat) : (clStep xs k i).length = xs.length := by
  unfold clStep; split <;> simp
theorem clRow_len (xs : List Int) (k : Nat) : ∀ i, (clRow xs k i).length = xs.length
  | 0 => rfl
  | i+1 => by rw [clRow, clStep_len, clRow_len xs k i]
theorem clAll_len (xs : List Int) : ∀ k, (clAll xs k).length = xs.length
  | 0 => rfl
  | k+1 => by rw [clAll, clRow_len, clAll_len xs k]
/-- all numbers of a list are sets below 1024 -/
def Small (xs : List Int) : Prop := ∀ k, k < xs.length → 0 ≤ nth xs k ∧ nth xs k < 1024
theorem nth_set {xs : List Int} {i j : Nat} {x : Int} (hi : i < xs.length) : nth (xs.set i x) j = if i = j then x else nth xs j := by
  simp only [nth, List.getD_eq_getElem?_getD, List.getElem?_set]
  by_cases h : i = j
  · subst h; simp [hi]
  · simp [h]
theorem clStep_small {xs : List Int} (h : Small xs) {k i : Nat} (hk : k < xs.length) (hi : i < xs.length) : Small (clStep xs k i) := by
  unfold clStep
  split
  · intro j hj
    rw [nth_set hi]
    have h1 := h i hi
    have h2 := h k hk
    split
    · have : (nth xs i).toNat ||| (nth xs k).toNat < 2 ^ 10 := or_lt (by omega) (by omega)
      omega
    · exact h j (by simpa using hj)
  · exact h
theorem clRow_small {xs : List Int} (h : Small xs) {k : Nat} (hk : k < xs.length) : ∀ i, i ≤ xs.length → Small (clRow xs k i)
  | 0, _ => h
  | i+1, hi => clStep_small (clRow_small h hk i (by omega)) (by rw [clRow_len]; exact hk) (by rw [clRow_len]; omega)
theorem clAll_small {xs : List Int} (h : Small xs) : ∀ k, k ≤ xs.length → Small (clAll xs k)
  | 0, _ => h
  | k+1, hk => clRow_small (clAll_small h k (by omega)) (by rw [clAll_len]; omega) _ (by rw [clAll_len]; omega)
theorem RelP.sm {n : Int} {xs : List Int} (h : RelP n xs) : Small xs := fun k hk => ⟨h.pos k hk, h.small k hk⟩
theorem set_ints (xs : List Int) (i : Nat) (x : Int) : (xs.map (Value.int .i64)).set i (.int .i64 x) = (xs.set i x).map (Value.int .i64) := by
  rw [List.map_set]
/-- a store into an owned row -/
theorem OwnI.put {w : World} {B g n cap : Nat} {xs : List Int} (h : OwnI w B (.slice (some ⟨g, 0, none⟩) n cap) xs) (hn : n = xs.length) (i : Nat) (x : Int) :
    OwnI (w.setCell ⟨g, i, none⟩ (.int .i64 x)) B (.slice (some ⟨g, 0, none⟩) n cap) (xs.set i x) ∧ w.grownBy (w.setCell ⟨g, i, none⟩ (.int .i64 x)) (some g) := by
  subst hn
  have hst := World.ownsRow.stored h i (.int .i64 x)
  rw [set_ints] at hst
  refine ⟨?_, hst.2⟩
  unfold OwnI
  rw [List.length_set]
  exact hst.1
theorem OwnI.at' {w : World} {B g n cap : Nat} {xs : List Int} (h : OwnI w B (.slice (some ⟨g, 0, none⟩) n cap) xs) (hn : n = xs.length) {i : Nat} (hi : i < xs.length) :
    w.cell? ⟨g, i, none⟩ = some (.int .i64 (nth xs i)) ∧ w.frozen? ⟨g, i, none⟩ = false := by
  subst hn
  refine ⟨?_, World.ownsRow.frozenAt h i⟩
  rw [World.ownsRow.cellAt h i (by omega)]
  simp [nth, hi]
theorem OwnI.head {w : World} {B n cap : Nat} {a : Option Addr} {xs : List Int} (h : OwnI w B (.slice a n cap) xs) (hp : 0 < xs.length) : ∃ g, a = some ⟨g, 0, none⟩ ∧ B ≤ g ∧ g < w.heap.size := by
  rcases h.2 with ⟨e, h0⟩ | ⟨g, c, cur, e, hb, hg, _⟩
  · omega
  · simp only [Value.slice.injEq] at e
    exact ⟨g, e.1, hb, (Array.getElem?_eq_some_iff.1 hg).1⟩
def cloN (n : Int) (xs : List Int) : Int := if relB n xs then n else 0
def cloL (n : Int) (xs : List Int) : List Int := if relB n xs then clAll xs xs.length else []
theorem cloL_len (n : Int) (xs : List Int) : (cloL n xs).length ≤ 1048576 := by
  unfold cloL
  split
  · rename_i h
    have hp := relB_p h
    have := hp.len
    have := hp.n1
    rw [clAll_len]
    omega
  · simp

theorem iLevels_any (n : Int) (a : Option Addr) (xs : List Int) (cap : Nat) (w : World) (hn : -9223372036854775808 ≤ n ∧ n ≤ 9223372036854775807) (hx : Rd w a xs) :
    Calls Try.prog 95 #[.agg #[.int .i64 n, .slice a xs.length cap]] w fun e w' => ∃ a' cap', e = .returned (.tuple #[.slice a' (levL n xs).length cap', .bool (isIv n xs)]) ∧ OwnI w' w.heap.size (.slice a' (levL n xs).length cap') (levL n xs) ∧ Below w.heap.size w w' := by
  have hx1 := hx.alloc (.cells #[.int .i64 n, .slice a xs.length cap] 32)
  obtain ⟨i0, hi, hz0, hz1, hz2⟩ := info_parts infoInt
  cases hr : isIv n xs
  · have H1 : Hid (levL n xs = []) := by simp [Hid, levL, hr]
    have HR := Lib.hid hr
    clear hr
    go_enter Try.func95, Try.ntmps95
    go_wp2_with fail
    refine (iIsInterval_any _ _ _ _ _ hn hx1).mono ?_
    rw [HR.out]
    rintro e w1 ⟨rfl, hb1⟩
    have bw1 : Below w.heap.size w w1 := Below.trans (by repeat (first | exact Below.refl _ _ | assumption | refine Below.alloc ?_ (by first | exact Nat.le_refl _ | (simp only [World.size_alloc, World.size_setCell, World.size_drew]; omega) | omega) _ | refine Below.setCell ?_ (by first | exact Nat.le_refl _ | (simp only [World.size_alloc, World.size_setCell, World.size_drew]; omega) | omega) _ | refine Below.drew ?_)) (hb1.mono (by first | (simp only [World.size_alloc, World.size_setCell, World.size_drew]; omega) | omega))
    go_wp2_with fail
    refine bodyPost_ret (v := .tuple #[.slice none 0 0, .bool false]) (by simp [results, Try.results95, go_sem]) rfl ?_
    exact ⟨none, 0, by rw [H1.out]; rfl, by rw [H1.out]; exact OwnI.nil _ _, bw1⟩
  · have ho := isIv_ord hr
    have hp := ord_rel ho
    have H1 : Hid (levL n xs = levs xs xs.length) := by simp [Hid, levL, hr]
    have HR := Lib.hid hr
    have HO := Lib.hid ho
    obtain rfl : n = (xs.length : Int) := hp.len.symm
    have hl10 : xs.length ≤ 10 := by have := hp.n1; omega
    clear hr ho
    go_enter Try.func95, Try.ntmps95
    go_wp2_with fail
    refine (iIsInterval_any _ _ _ _ _ hn hx1).mono ?_
    rw [HR.out, HO.out]
    rintro e w1 ⟨rfl, hb1⟩
    have A1 : Box2 w1 w.heap.size (.int .i64 (xs.length : Int)) (.slice a xs.length cap) := (Box2.new w _ _ _).below hb1
    have bw1 : Below w.heap.size w w1 := Below.trans (by repeat (first | exact Below.refl _ _ | assumption | refine Below.alloc ?_ (by first | exact Nat.le_refl _ | (simp only [World.size_alloc, World.size_setCell, World.size_drew]; omega) | omega) _ | refine Below.setCell ?_ (by first | exact Nat.le_refl _ | (simp only [World.size_alloc, World.size_setCell, World.size_drew]; omega) | omega) _ | refine Below.drew ?_)) (hb1.mono (by first | (simp only [World.size_alloc, World.size_setCell, World.size_drew]; omega) | omega))
    have ⟨zA, cA, dA⟩ := A1
    clear hb1
    go_wp2_with fail
    refine (lowerSets_any _ _ _ _ _ (hx.below bw1) hp).mono ?_
    obtain ⟨ss, hss⟩ : ∃ ss, ss = sets xs := ⟨_, rfl⟩
    have hbd : ∀ m, m < ss.length → 0 ≤ nth ss m ∧ nth ss m < 1024 := fun m hm => by rw [hss] at hm ⊢; exact setsTo_bd hl10 hm
    have hlv : ∀ i, lv xs i = ((lvTo ss ((belowTo xs (i : Int) xs.length : Nat) : Int) ss.length : Nat) : Int) := fun i => by rw [hss]; rfl
    have hsl : ss.length ≤ xs.length := by rw [hss]; exact sets_len xs
    rw [← hss]
    have HBD := Lib.hid hbd
    have HLV := Lib.hid hlv
    clear hss hbd hlv
    rintro e w2 ⟨a2, cap2, rfl, ho2, hb2⟩
    have A2 := A1.below hb2
    have bw2 := bw1.trans (hb2.mono bw1.size)
    have hrs := ho2.rd
    have zw2 : w.heap.size + 1 ≤ w2.heap.size := by have := A2.1; omega
    clear zA cA dA A1 hb2
    have ⟨zA, cA, dA⟩ := A2
    go_wp2_with (at_make; refine wpList_make_full _ rfl (.tmp 22) (.tmp 22) 23 rfl w2.heap.size 3 i0 (.int .i64 0) 1 Try.underlying23 hi hz0 hz1 .i64 .i64 _ _ xs.length rfl rfl rfl rfl (by rw [hz2]; omega) (by unfold maxLen; omega) (Nat.le_refl _) ?_; intro w3 hown hgrow; have A3 := A2.kept hgrow (by simp))
    have hb3 : Below w2.heap.size w2 w3 := (Below.refl _ _).grown hgrow (Nat.le_refl _) (fun k h => by cases h)
    have hown0 := made_row (lv xs) hown
    clear hown hgrow cA dA zA A2
    go_wp2_with fail
    go_loopw [26] (fun i wr => ∃ k : Nat, k ≤ xs.length ∧ i = .int .i64 k ∧ OwnI wr w2.heap.size (.slice (some ⟨w2.heap.size, 0, none⟩) xs.length xs.length) (rowF (lv xs) xs.length k) ∧ Below w2.heap.size w2 wr ∧ Box2 wr w.heap.size (.int .i64 (xs.length : Int)) (.slice a xs.length cap)) (fun i _ => xs.length - (intOf i).toNat)
    case atStart => exact ⟨0, Nat.zero_le _, rfl, hown0, hb3, A3⟩
    case round =>
      obtain ⟨k, hk, rfl, hown, hb, hA⟩ := hrel
      have ⟨zB, cB, dB⟩ := hA
      by_cases hlt : k < xs.length
      · have k0 : (0 : Int) ≤ (k : Int) := by omega
        have k1 : (k : Int) < (xs.length : Int) := by omega
        have hbt := belowTo_small xs (k : Int) (k := xs.length) hl10
        go_wp2_with fail
        refine (belowSet_any _ _ _ _ _ _ (hx.below (bw2.trans (hb.mono bw2.size))) hp k0).mono ?_
        rintro e w4 ⟨rfl, hb4⟩
        have A4 := hA.below hb4
        have b4 := hb.trans (hb4.mono hb.size)
        have o4 := hown.below hb4 (Nat.le_refl _)
        clear cB dB hb4 hown
        go_wp2_with fail
        go_loopw [34] (fun i' wi => ∃ j : Nat, j ≤ ss.length ∧ i' = .int .i64 j ∧ OwnI wi w2.heap.size (.slice (some ⟨w2.heap.size, 0, none⟩) xs.length xs.length) ((rowF (lv xs) xs.length k).set k ((lvTo ss ((belowTo xs (k : Int) xs.length : Nat) : Int) j : Nat) : Int)) ∧ Below w2.heap.size w2 wi ∧ Box2 wi w.heap.size (.int .i64 (xs.length : Int)) (.slice a xs.length cap)) (fun i _ => ss.length - (intOf i).toNat)
        case atStart => exact ⟨0, Nat.zero_le _, rfl, by rw [lvTo, show (((0 : Nat) : Nat) : Int) = 0 from rfl, rowF_zero _ hlt]; exact o4, b4, A4⟩
        case round =>
          obtain ⟨j, hj, rfl, hown, hb, hA⟩ := hrel
          by_cases hjl : j < ss.length
          · obtain ⟨b2, off2, rfl, hbl2, hc2⟩ := (hrs.below hb).cell j hjl
            have ⟨s0, s1⟩ := HBD.out j hjl
            have hle := lvTo_le ss ((belowTo xs (k : Int) xs.length : Nat) : Int) j
            cases hne : (nth ss j != ((belowTo xs (k : Int) xs.length : Nat) : Int))
            · have HN := Lib.hid (lessB_ne hne)
              go_wp2_with fail
              go_roundw
              case rel => exact ⟨j + 1, by omega, by go_num, by simp only [lvTo, HN.out]; exact hown, hb, hA⟩
              case measure => simp [intOf]; omega
            · have hsb := lessB_sub s0 s1 hbt hne
              cases hlb : lessB (nth ss j) ((belowTo xs (k : Int) xs.length : Nat) : Int)
              · rw [hlb] at hsb
                have HN := Lib.hid hlb
                clear hlb
                go_wp2_with fail
                go_roundw
                case rel => exact ⟨j + 1, by omega, by go_num, by simp only [lvTo, HN.out]; exact hown, hb, hA⟩
                case measure => simp [intOf]; omega
              · rw [hlb] at hsb
                have HN := Lib.hid hlb
                clear hlb
                obtain ⟨row, hrow⟩ : ∃ row, row = (rowF (lv xs) xs.length k).set k ((lvTo ss ((belowTo xs (k : Int) xs.length : Nat) : Int) j : Nat) : Int) := ⟨_, rfl⟩
                have hrl : row.length = xs.length := by rw [hrow, List.length_set, rowF_len _ hk]
                have hrk : nth row k = ((lvTo ss ((belowTo xs (k : Int) xs.length : Nat) : Int) j : Nat) : Int) := by rw [hrow, nth_set (by rw [rowF_len _ hk]; exact hlt), if_pos rfl]
                have hrs : ∀ y, row.set k y = (rowF (lv xs) xs.length k).set k y := by intro y; rw [hrow, List.set_set]
                rw [← hrow] at hown
                have ⟨ci, fi⟩ := hown.at' hrl.symm (i := k) (by omega)
                rw [hrk] at ci
                have hput := hown.put hrl.symm k ((lvTo ss ((belowTo xs (k : Int) xs.length : Nat) : Int) j + 1 : Nat) : Int)
                rw [hrs] at hput
                have HP := Lib.hid hput
                clear hput hrow hrl hrk hrs hown
                go_wp2_with fail
                go_roundw
                case rel =>
                  refine ⟨j + 1, by omega, by go_num, ?_, hb.setCell (p := ⟨w2.heap.size, k, none⟩) (Nat.le_refl _) _, hA.set (p := ⟨w2.heap.size, k, none⟩) _ (show w.heap.size ≠ w2.heap.size by omega)⟩
                  have := HP.out.1
                  simp only [lvTo, HN.out, if_true]
                  exact this
                case measure => simp [intOf]; omega
          · obtain rfl : j = ss.length := by omega
            have hnext : (rowF (lv xs) xs.length k).set k ((lvTo ss ((belowTo xs (k : Int) xs.length : Nat) : Int) ss.length : Nat) : Int) = rowF (lv xs) xs.length (k + 1) := by
              rw [← rowF_set _ hlt, HLV.out]
            rw [hnext] at hown
            have HN := Lib.hid hown
            clear hnext hown
            go_wp2_with fail
            go_roundw
            case rel => exact ⟨k + 1, by omega, by go_num, HN.out, hb, hA⟩
            case measure => simp [intOf]; omega
      · obtain rfl : k = xs.length := by omega
        rw [rowF_end] at hown
        go_wp2_with fail
        refine bodyPost_ret (v := .tuple #[.slice (some ⟨w2.heap.size, 0, none⟩) xs.length xs.length, .bool true]) (by simp [results, Try.results95, go_sem]) rfl ?_
        exact ⟨some ⟨w2.heap.size, 0, none⟩, xs.length, by rw [H1.out, levs_len], by rw [H1.out, levs_len]; exact hown.mono bw2.size, bw2.trans (hb.mono bw2.size)⟩

/-- the row while the right end of k is being found -/
def endRow (xs : List Int) (k j : Nat) : List Int := ((rowP (lv xs) (rtE xs) xs.length k).set (k * 2) (lv xs k)).set (k * 2 + 1) (rtTo 0 xs k j)
theorem endRow_len (xs : List Int) {k : Nat} (j : Nat) (h : k ≤ xs.length) : (endRow xs k j).length = xs.length * 2 := by
  rw [endRow, List.length_set, List.length_set, rowP_len _ _ h]
theorem endRow_zero (xs : List Int) {k : Nat} (h : k < xs.length) : (rowP (lv xs) (rtE xs) xs.length k).set (k * 2) (lv xs k) = endRow xs k 0 := by
  have hl := rowP_len (lv xs) (rtE xs) (Nat.le_of_lt h)
  apply nth_ext' (by rw [endRow_len xs 0 (by omega), List.length_set, hl])
  intro i hi
  rw [List.length_set, hl] at hi
  rw [endRow, nth_set' (xs := (rowP (lv xs) (rtE xs) xs.length k).set (k * 2) (lv xs k)) (by rw [List.length_set, hl]; omega)]
  by_cases e : k * 2 + 1 = i
  · subst e
    rw [if_pos rfl, nth_set' (by rw [hl]; omega), if_neg (by omega), rowP_nth _ _ (by omega) hi, if_neg (by omega)]
    rfl
  · rw [if_neg e]
theorem endRow_end (xs : List Int) {k : Nat} (h : k < xs.length) : endRow xs k xs.length = rowP (lv xs) (rtE xs) xs.length (k + 1) := rowP_next _ _ h
theorem endRow_set (xs : List Int) (k j : Nat) (y : Int) : (endRow xs k j).set (k * 2 + 1) y = ((rowP (lv xs) (rtE xs) xs.length k).set (k * 2) (lv xs k)).set (k * 2 + 1) y := by
  rw [endRow, List.set_set]
theorem endRow_nth (xs : List Int) {k : Nat} (j : Nat) (h : k < xs.length) : nth (endRow xs k j) (k * 2 + 1) = rtTo 0 xs k j := by
  rw [endRow, nth_set' (by rw [List.length_set, rowP_len _ _ (by omega)]; omega), if_pos rfl]
theorem endRow_yes {xs : List Int} {k j : Nat} (h : hasB (nth xs k) j = true) : endRow xs k (j+1) = endRow xs k j := by
  rw [endRow, endRow, rtTo, if_pos h]
theorem iEnds_any (n : Int) (a : Option Addr) (xs : List Int) (cap : Nat) (w : World) (hn : -9223372036854775808 ≤ n ∧ n ≤ 9223372036854775807) (hx : Rd w a xs) :
    Calls Try.prog 61 #[.agg #[.int .i64 n, .slice a xs.length cap]] w (GotV w (endN n xs) (endL n xs) (isIv n xs)) := by
  have hx1 := hx.alloc (.cells #[.int .i64 n, .slice a xs.length cap] 32)
  obtain ⟨i0, hi, hz0, hz1, hz2⟩ := info_parts infoIv
  cases hr : isIv n xs
  · have H1 : Hid (endN n xs = 0) := by simp [Hid, endN, hr]
    have H2 : Hid (endL n xs = []) := by simp [Hid, endL, hr]
    have H3 : Hid (levL n xs = []) := by simp [Hid, levL, hr]
    have HR := Lib.hid hr
    clear hr
    go_enter Try.func61, Try.ntmps61
    go_wp2_with fail
    refine (iLevels_any _ _ _ _ _ hn hx1).mono ?_
    rw [HR.out, H3.out]
    rintro e w1 ⟨a1, cap1, rfl, ho1, hb1⟩
    have bw1 : Below w.heap.size w w1 := Below.trans (by repeat (first | exact Below.refl _ _ | assumption | refine Below.alloc ?_ (by first | exact Nat.le_refl _ | (simp only [World.size_alloc, World.size_setCell, World.size_drew]; omega) | omega) _ | refine Below.setCell ?_ (by first | exact Nat.le_refl _ | (simp only [World.size_alloc, World.size_setCell, World.size_drew]; omega) | omega) _ | refine Below.drew ?_)) (hb1.mono (by first | (simp only [World.size_alloc, World.size_setCell, World.size_drew]; omega) | omega))
    clear ho1
    go_wp2_with fail
    refine bodyPost_ret (v := .tuple #[.slice none 0 0, .bool false]) (by simp [results, Try.results61, go_sem]) rfl ?_
    exact ⟨none, 0, by rw [H1.out], by rw [H1.out, H2.out]; exact OwnV.nil _ _, bw1⟩
  · have ho := isIv_ord hr
    have hp := ord_rel ho
    have H1 : Hid (endN n xs = xs.length) := by simp [Hid, endN, hr]
    have H2 : Hid (endL n xs = endp xs xs.length) := by simp [Hid, endL, hr]
    have H3 : Hid (levL n xs = levs xs xs.length) := by simp [Hid, levL, hr]
    have HR := Lib.hid hr
    obtain rfl : n = (xs.length : Int) := hp.len.symm
    have hl10 : xs.length ≤ 10 := by have := hp.n1; omega
    clear hr ho
    go_enter Try.func61, Try.ntmps61
    go_wp2_with fail
    refine (iLevels_any _ _ _ _ _ hn hx1).mono ?_
    rw [HR.out, H3.out, levs_len]
    rintro e w1 ⟨a1, cap1, rfl, ho1, hb1⟩
    have A1 : Box2 w1 w.heap.size (.int .i64 (xs.length : Int)) (.slice a xs.length cap) := (Box2.new w _ _ _).below hb1
    have bw1 : Below w.heap.size w w1 := Below.trans (by repeat (first | exact Below.refl _ _ | assumption | refine Below.alloc ?_ (by first | exact Nat.le_refl _ | (simp only [World.size_alloc, World.size_setCell, World.size_drew]; omega) | omega) _ | refine Below.setCell ?_ (by first | exact Nat.le_refl _ | (simp only [World.size_alloc, World.size_setCell, World.size_drew]; omega) | omega) _ | refine Below.drew ?_)) (hb1.mono (by first | (simp only [World.size_alloc, World.size_setCell, World.size_drew]; omega) | omega))
    have ⟨zA, cA, dA⟩ := A1
    have hrl : Rd w1 a1 (levs xs xs.length) := ho1.rd
    clear hb1 ho1
    go_wp2_with (at_make; refine wpList_make_full _ rfl (.tmp 19) (.tmp 19) 30 rfl w1.heap.size 49 i0 (.agg #[.int .i64 0, .int .i64 0]) 2 Try.underlying30 hi hz0 hz1 .i64 .i64 _ _ xs.length rfl rfl rfl rfl (by rw [hz2]; omega) (by unfold maxLen; omega) (Nat.le_refl _) ?_; intro w2 hown hgrow; have A2 := A1.kept hgrow (by simp))
    have hb2 : Below w1.heap.size w1 w2 := (Below.refl _ _).grown hgrow (Nat.le_refl _) (fun k h => by cases h)
    have hown0 := made_rowP (lv xs) (rtE xs) hown
    clear hown hgrow cA dA
    go_wp2_with fail
    go_loopw [23] (fun i wr => ∃ k : Nat, k ≤ xs.length ∧ i = .int .i64 k ∧ OwnV wr w1.heap.size (.slice (some ⟨w1.heap.size, 0, none⟩) xs.length xs.length) xs.length (rowP (lv xs) (rtE xs) xs.length k) ∧ Below w1.heap.size w1 wr ∧ Box2 wr w.heap.size (.int .i64 (xs.length : Int)) (.slice a xs.length cap)) (fun i _ => xs.length - (intOf i).toNat)
    case atStart => exact ⟨0, Nat.zero_le _, rfl, hown0, hb2, A2⟩
    case round =>
      obtain ⟨k, hk, rfl, hown, hb, hA⟩ := hrel
      by_cases hlt : k < xs.length
      · obtain ⟨b, off, rfl, hbl, hck⟩ := (hrl.below hb).cell k (by rw [levs_len]; exact hlt)
        rw [levs_nth xs hlt] at hck
        have k0 : (0 : Int) ≤ (k : Int) := by omega
        have k1 : (k : Int) < (xs.length : Int) := by omega
        have hpl := rowP_len (lv xs) (rtE xs) hk
        have ⟨c1, f1⟩ := hown.at' (i := k * 2) (by omega)
        have p1 := hown.put (k * 2) (lv xs k)
        rw [endRow_zero xs hlt] at p1
        have P1 := Lib.hid p1.1
        have A3 := hA.kept p1.2 (by simp; omega)
        have b3 := hb.setCell (p := ⟨w1.heap.size, k * 2, none⟩) (Nat.le_refl _) (.int .i64 (lv xs k))
        clear hown p1 hpl
        go_wp2_with fail
        go_loopw [35] (fun i' wi => ∃ j : Nat, j ≤ xs.length ∧ i' = .int .i64 j ∧ OwnV wi w1.heap.size (.slice (some ⟨w1.heap.size, 0, none⟩) xs.length xs.length) xs.length (endRow xs k j) ∧ Below w1.heap.size w1 wi ∧ Box2 wi w.heap.size (.int .i64 (xs.length : Int)) (.slice a xs.length cap)) (fun i _ => xs.length - (intOf i).toNat)
        case atStart => exact ⟨0, Nat.zero_le _, rfl, P1.out, b3, A3⟩
        case round =>
          obtain ⟨j, hj, rfl, hown, hb, hA⟩ := hrel
          have ⟨zB, cB, dB⟩ := hA
          by_cases hjl : j < xs.length
          · obtain ⟨b2, off2, e2, hbl2, hcj⟩ := (hrl.below hb).cell j (by rw [levs_len]; exact hjl)
            simp only [Option.some.injEq, Addr.mk.injEq, and_true] at e2
            obtain ⟨rfl, rfl⟩ := e2
            rw [levs_nth xs hjl] at hcj
            obtain ⟨b3, off3, rfl, hbl3, hc3⟩ := (hx.below (bw1.trans (hb.mono bw1.size))).cell k hlt
            have s0 := hp.pos k hlt
            have s2 : nth xs k ≤ 9223372036854775807 := by have := hp.small k hlt; omega
            have j0 : (0 : Int) ≤ (j : Int) := by omega
            have j1 : (j : Int) < (xs.length : Int) := by omega
            cases hhas : hasB (nth xs k) j
            · have hel := endRow_len xs (k := k) j hk
              have ⟨c2, f2⟩ := hown.at' (i := k * 2 + 1) (by omega)
              rw [endRow_nth xs j hlt] at c2
              have ⟨r0, r1⟩ := rtTo_bd (st := 0) (xs := xs) (i := k) (k := j) (by omega) (by omega)
              have ⟨l0, l1⟩ := lv_bd xs j
              have p2 := hown.put (k * 2 + 1) (rtTo 0 xs k (j + 1))
              rw [endRow_set] at p2
              have P2 := Lib.hid p2.1
              have A4 := hA.kept p2.2 (by simp; omega)
              have b4 := hb.setCell (p := ⟨w1.heap.size, k * 2 + 1, none⟩) (Nat.le_refl _) (.int .i64 (rtTo 0 xs k (j + 1)))
              have hmx : max (rtTo 0 xs k j) (lv xs j) = rtTo 0 xs k (j + 1) := by rw [rtTo_no hhas, maxI]; split <;> omega
              have HM := Lib.hid hmx
              clear p2 hel hown hmx
              go_wp2_with (go_at_call 92; refine (hasElement_any _ _ _ (by assumption) (by assumption) (by assumption)).mono ?_; rintro e w' ⟨rfl, rfl⟩)
              go_roundw
              case rel => rw [HM.out]; exact ⟨j + 1, by omega, by go_num, P2.out, b4, A4⟩
              case measure => simp [intOf]; omega
            · have HE := Lib.hid (endRow_yes hhas)
              go_wp2_with (go_at_call 92; refine (hasElement_any _ _ _ (by assumption) (by assumption) (by assumption)).mono ?_; rintro e w' ⟨rfl, rfl⟩)
              go_roundw
              case rel => exact ⟨j + 1, by omega, by go_num, by rw [HE.out]; exact hown, hb, hA⟩
              case measure => simp [intOf]; omega
          · obtain rfl : j = xs.length := by omega
            rw [endRow_end xs hlt] at hown
            go_wp2_with fail
            go_roundw
            case rel => exact ⟨k + 1, by omega, by go_num, hown, hb, hA⟩
            case measure => simp [intOf]; omega
      · obtain rfl : k = xs.length := by omega
        rw [rowP_end] at hown
        go_wp2_with fail
        refine bodyPost_ret (v := .tuple #[.slice (some ⟨w1.heap.size, 0, none⟩) xs.length xs.length, .bool true]) (by simp [results, Try.results61, go_sem]) rfl ?_
        exact ⟨some ⟨w1.heap.size, 0, none⟩, xs.length, by rw [H1.out], by rw [H1.out, H2.out]; exact hown.mono bw1.size, bw1.trans (hb.mono bw1.size)⟩

theorem isBefore_any (x y x' y' : Int) (w : World) :
    Calls Try.prog 90 #[.agg #[.int .i64 x, .int .i64 y], .agg #[.int .i64 x', .int .i64 y']] w fun e w' => e = .returned (.bool (decide (y < x'))) ∧ Below w.heap.size w w' := by
  by_cases h : y < x'
  all_goals
    go_enter Try.func90, Try.ntmps90
    go_wp2
    go_ret
    exact ⟨ret_bool (by simp [h]), (by repeat (first | exact Below.refl _ _ | assumption | refine Below.alloc ?_ (by first | exact Nat.le_refl _ | (simp only [World.size_alloc, World.size_setCell, World.size_drew]; omega) | omega) _ | refine Below.setCell ?_ (by first | exact Nat.le_refl _ | (simp only [World.size_alloc, World.size_setCell, World.size_drew]; omega) | omega) _ | refine Below.drew ?_))⟩

theorem cmpBefore_any (a : Option Addr) (cs : List Int) (n cap : Nat) (x y : Int) (w : World) (hx : Rd w a cs) (hl : cs.length = n * 2) (hn : n ≤ 10) :
    Calls Try.prog 68 #[.slice a n cap, .agg #[.int .i64 x, .int .i64 y], .func (.func 90) #[] #[]] w fun e w' => e = .returned (.int .i64 (befTo cs y n)) ∧ Below w.heap.size w w' := by
  have HL := Lib.hid hl
  clear hl
  go_enter Try.func68, Try.ntmps68
  go_wp2_with fail
  go_loopw [7, 12] (fun s i wr => ∃ k : Nat, k ≤ n ∧ i = .int .i64 k ∧ s = .int .i64 (befTo cs y k) ∧ Below w.heap.size w wr ∧ Box2 wr w.heap.size (.int .i64 x) (.int .i64 y)) (fun _ i _ => n - (intOf i).toNat)
  case atStart => exact ⟨0, Nat.zero_le _, rfl, rfl, (by repeat (first | exact Below.refl _ _ | assumption | refine Below.alloc ?_ (by first | exact Nat.le_refl _ | (simp only [World.size_alloc, World.size_setCell, World.size_drew]; omega) | omega) _ | refine Below.setCell ?_ (by first | exact Nat.le_refl _ | (simp only [World.size_alloc, World.size_setCell, World.size_drew]; omega) | omega) _ | refine Below.drew ?_)), Box2.new w _ _ _⟩
  case round =>
    obtain ⟨k, hk, rfl, rfl, hb, hB⟩ := hrel
    have ⟨zB, cB, dB⟩ := hB
    have hzr := hb.size
    by_cases hlt : k < n
    · obtain ⟨b, off, rfl, hbl, hc1, hc2⟩ := (hx.below hb).pair HL.out hlt
      have hbs := befTo_small cs y (k := k) (by omega)
      have hor := Lib.hid (or_bit (b := befTo cs y k) (k := k) (by omega) (by omega))
      clear hbs
      by_cases hlt2 : y < lft cs k
      · have HS : Hid (befTo cs y (k+1) = befTo cs y k ||| 2 ^ k) := by rw [Hid, befTo, if_pos hlt2]
        have hd : decide (y < lft cs k) = true := by simp [hlt2]
        clear hlt2
        go_wp2_with fail
        refine (isBefore_any _ _ _ _ _).mono ?_
        rw [hd]
        rintro e w2 ⟨rfl, hb2⟩
        have ht2 : Below wr.heap.size wr w2 := Below.trans (by repeat (first | exact Below.refl _ _ | assumption | refine Below.alloc ?_ (by first | exact Nat.le_refl _ | (simp only [World.size_alloc, World.size_setCell, World.size_drew]; omega) | omega) _ | refine Below.setCell ?_ (by first | exact Nat.le_refl _ | (simp only [World.size_alloc, World.size_setCell, World.size_drew]; omega) | omega) _ | refine Below.drew ?_)) (hb2.mono (by first | (simp only [World.size_alloc, World.size_setCell, World.size_drew]; omega) | omega))
        have bw2 := hb.trans (ht2.mono hb.size)
        have B2 := hB.below ht2
        clear hb2 cB dB hc1 hc2
        go_wp2_with fail
        go_roundw
        case rel => exact ⟨k + 1, by omega, by go_num, val_int (by rw [hor.out, HS.out]), bw2, B2⟩
        case measure => simp [intOf]; omega
      · have HS : Hid (befTo cs y (k+1) = befTo cs y k) := by rw [Hid, befTo, if_neg hlt2]
        have hd : decide (y < lft cs k) = false := by simp; omega
        clear hlt2
        go_wp2_with fail
        refine (isBefore_any _ _ _ _ _).mono ?_
        rw [hd]
        rintro e w2 ⟨rfl, hb2⟩
        have ht2 : Below wr.heap.size wr w2 := Below.trans (by repeat (first | exact Below.refl _ _ | assumption | refine Below.alloc ?_ (by first | exact Nat.le_refl _ | (simp only [World.size_alloc, World.size_setCell, World.size_drew]; omega) | omega) _ | refine Below.setCell ?_ (by first | exact Nat.le_refl _ | (simp only [World.size_alloc, World.size_setCell, World.size_drew]; omega) | omega) _ | refine Below.drew ?_)) (hb2.mono (by first | (simp only [World.size_alloc, World.size_setCell, World.size_drew]; omega) | omega))
        have bw2 := hb.trans (ht2.mono hb.size)
        have B2 := hB.below ht2
        clear hb2 cB dB hc1 hc2
        go_wp2_with fail
        go_roundw
        case rel => exact ⟨k + 1, by omega, by go_num, val_int (by rw [HS.out]), bw2, B2⟩
        case measure => simp [intOf]; omega
    · obtain rfl : k = n := by omega
      go_wp2_with fail
      go_ret
      exact ⟨rfl, hb⟩

theorem isWrong_any (x y : Int) (w : World) :
    Calls Try.prog 102 #[.agg #[.int .i64 x, .int .i64 y]] w fun e w' => e = .returned (.bool (wrongB x y)) ∧ Below w.heap.size w w' := by
  by_cases h1 : x < -1000
  · have H : Hid (wrongB x y = true) := by simp [Hid, wrongB, h1]
    go_enter Try.func102, Try.ntmps102
    go_wp2
    go_ret
    exact ⟨ret_bool H.out.symm, (by repeat (first | exact Below.refl _ _ | assumption | refine Below.alloc ?_ (by first | exact Nat.le_refl _ | (simp only [World.size_alloc, World.size_setCell, World.size_drew]; omega) | omega) _ | refine Below.setCell ?_ (by first | exact Nat.le_refl _ | (simp only [World.size_alloc, World.size_setCell, World.size_drew]; omega) | omega) _ | refine Below.drew ?_))⟩
  · by_cases h2 : y < x
    · have H : Hid (wrongB x y = true) := by simp [Hid, wrongB, h2]
      go_enter Try.func102, Try.ntmps102
      go_wp2
      go_ret
      exact ⟨ret_bool H.out.symm, (by repeat (first | exact Below.refl _ _ | assumption | refine Below.alloc ?_ (by first | exact Nat.le_refl _ | (simp only [World.size_alloc, World.size_setCell, World.size_drew]; omega) | omega) _ | refine Below.setCell ?_ (by first | exact Nat.le_refl _ | (simp only [World.size_alloc, World.size_setCell, World.size_drew]; omega) | omega) _ | refine Below.drew ?_))⟩
    · have H : Hid (wrongB x y = decide (1000 < y)) := by simp [Hid, wrongB, h1, h2]
      go_enter Try.func102, Try.ntmps102
      go_wp2
      go_ret
      exact ⟨ret_bool (by rw [H.out]), (by repeat (first | exact Below.refl _ _ | assumption | refine Below.alloc ?_ (by first | exact Nat.le_refl _ | (simp only [World.size_alloc, World.size_setCell, World.size_drew]; omega) | omega) _ | refine Below.setCell ?_ (by first | exact Nat.le_refl _ | (simp only [World.size_alloc, World.size_setCell, World.size_drew]; omega) | omega) _ | refine Below.drew ?_))⟩

/-- the first wrong pair, or -1 -/
def idxW (cs : List Int) (n : Nat) : Int := match (List.range n).find? (fun k => wrongB (lft cs k) (rgt cs k)) with | some k => (k : Int) | none => -1
theorem idxW_at {cs : List Int} {n k : Nat} (hk : k < n) (h : wrongB (lft cs k) (rgt cs k) = true) (hb : ∀ j, j < k → wrongB (lft cs j) (rgt cs j) = false) : idxW cs n = (k : Int) := by
  have : (List.range n).find? (fun k => wrongB (lft cs k) (rgt cs k)) = some k := by
    rw [List.find?_range_eq_some]
    exact ⟨h, by simpa using hk, fun j hj => by simp [hb j hj]⟩
  rw [idxW, this]
theorem idxW_none {cs : List Int} {n : Nat} (h : ∀ j, j < n → wrongB (lft cs j) (rgt cs j) = false) : idxW cs n = -1 := by
  have : (List.range n).find? (fun k => wrongB (lft cs k) (rgt cs k)) = none := by
    rw [List.find?_eq_none]
    intro x hx
    simp [h x (by simpa using hx)]
  rw [idxW, this]
theorem indexWrong_any (a : Option Addr) (cs : List Int) (n cap : Nat) (w : World) (hx : Rd w a cs) (hl : cs.length = n * 2) (hn : n ≤ 1048576) :
    Calls Try.prog 121 #[.slice a n cap, .func (.func 102) #[] #[]] w fun e w' => e = .returned (.int .i64 (idxW cs n)) ∧ Below w.heap.size w w' := by
  have HL := Lib.hid hl
  clear hl
  go_enter Try.func121, Try.ntmps121
  go_wp2_with fail
  go_loopw [8] (fun i wr => ∃ k : Nat, k ≤ n ∧ i = .int .i64 k ∧ (∀ j, j < k → wrongB (lft cs j) (rgt cs j) = false) ∧ Below w.heap.size w wr) (fun i _ => n - (intOf i).toNat)
  case atStart => exact ⟨0, Nat.zero_le _, rfl, fun j hj => by omega, Below.refl _ _⟩
  case round =>
    obtain ⟨k, hk, rfl, hall, hb⟩ := hrel
    have HA := Lib.hid hall
    clear hall
    by_cases hlt : k < n
    · obtain ⟨b, off, rfl, hbl, hc1, hc2⟩ := (hx.below hb).pair HL.out hlt
      cases hw : wrongB (lft cs k) (rgt cs k)
      · have HW := Lib.hid hw
        go_wp2_with fail
        refine (isWrong_any _ _ _).mono ?_
        rw [HW.out]
        rintro e w2 ⟨rfl, hb2⟩
        have bw2 := hb.trans (hb2.mono hb.size)
        go_wp2_with fail
        go_roundw
        case rel =>
          refine ⟨k + 1, by omega, by go_num, fun j hj => ?_, bw2⟩
          by_cases e : j = k
          · rw [e]; exact HW.out
          · exact HA.out j (by omega)
        case measure => simp [intOf]; omega
      · have HI := Lib.hid (idxW_at hlt hw HA.out)
        have HW := Lib.hid hw
        go_wp2_with fail
        refine (isWrong_any _ _ _).mono ?_
        rw [HW.out]
        rintro e w2 ⟨rfl, hb2⟩
        have bw2 := hb.trans (hb2.mono hb.size)
        go_wp2_with fail
        go_ret
        exact ⟨ret_int HI.out.symm, bw2⟩
    · obtain rfl : k = n := by omega
      have HI := Lib.hid (idxW_none HA.out)
      go_wp2_with fail
      go_ret
      exact ⟨ret_int HI.out.symm, hb⟩
theorem containsWrong_any (a : Option Addr) (cs : List Int) (n cap : Nat) (w : World) (hx : Rd w a cs) (hl : cs.length = n * 2) (hn : n ≤ 1048576) :
    Calls Try.prog 101 #[.slice a n cap, .func (.func 102) #[] #[]] w fun e w' => e = .returned (.bool (decide (0 ≤ idxW cs n))) ∧ Below w.heap.size w w' := by
  go_enter Try.func101, Try.ntmps101
  go_wp2_with fail
  refine (indexWrong_any _ _ _ _ _ hx hl hn).mono ?_
  rintro e w2 ⟨rfl, hb2⟩
  clear hl
  go_wp2_with fail
  go_ret
  exact ⟨rfl, hb2⟩
theorem good_idx {cs : List Int} {n : Nat} (h : n ≤ 10) : goodV cs n = !decide (0 ≤ idxW cs n) := by
  cases hg : goodV cs n
  · have h1 : ∃ k, k < n ∧ wrongB (lft cs k) (rgt cs k) = true := by
      apply Classical.byContradiction
      intro hne
      have : goodV cs n = true := goodV_iff.2 ⟨h, fun k hk => by
        cases hw : wrongB (lft cs k) (rgt cs k)
        · rfl
        · exact absurd ⟨k, hk, hw⟩ hne⟩
      rw [hg] at this; cases this
    unfold idxW
    cases hf : (List.range n).find? (fun k => wrongB (lft cs k) (rgt cs k)) with
    | none =>
      obtain ⟨k, hk, hw⟩ := h1
      rw [List.find?_eq_none] at hf
      exact absurd hw (hf k (by simpa using hk))
    | some k => simp
  · rw [idxW_none (goodV_iff.1 hg).2]; rfl

theorem iAreIntervals_any (a : Option Addr) (cs : List Int) (n cap : Nat) (w : World) (hx : Rd w a cs) (hl : cs.length = n * 2) (hn : n ≤ 1048576) :
    Calls Try.prog 71 #[.slice a n cap] w fun e w' => e = .returned (.bool (goodV cs n)) ∧ Below w.heap.size w w' := by
  by_cases h : n ≤ 10
  · have H := Lib.hid (good_idx (cs := cs) h)
    have HL := Lib.hid hl
    clear hl
    go_enter Try.func71, Try.ntmps71
    go_wp2_with fail
    refine (containsWrong_any _ _ _ _ _ hx HL.out hn).mono ?_
    rintro e w2 ⟨rfl, hb2⟩
    go_wp2_with fail
    go_ret
    exact ⟨ret_bool (by rw [H.out]), hb2⟩
  · have H := Lib.hid (goodV_big (cs := cs) (n := n) (by omega))
    clear hl
    go_enter Try.func71, Try.ntmps71
    go_wp2_with fail
    go_ret
    exact ⟨ret_bool H.out.symm, Below.refl _ _⟩

theorem iOrderOfIv_any (a : Option Addr) (cs : List Int) (n cap : Nat) (w : World) (hx : Rd w a cs) (hl : cs.length = n * 2) (hn : n ≤ 1048576) :
    Calls Try.prog 56 #[.slice a n cap] w (GotO w (ooN cs n) (ooL cs n) (goodV cs n)) := by
  obtain ⟨i0, hi, hz0, hz1, hz2⟩ := info_parts infoInt
  have HL := Lib.hid hl
  clear hl
  have hx1 := hx.alloc (.cells #[.int .i64 0, .slice none 0 0] 32)
  cases hg : goodV cs n
  · have H1 : Hid (ooN cs n = 0) := by simp [Hid, ooN, hg]
    have H2 : Hid (ooL cs n = []) := by simp [Hid, ooL, hg]
    have HG := Lib.hid hg
    clear hg
    go_enter Try.func56, Try.ntmps56
    go_wp2_with fail
    refine (iAreIntervals_any _ _ _ _ _ hx1 HL.out hn).mono ?_
    rw [HG.out]
    rintro e w1 ⟨rfl, hb1⟩
    have R1 : Var2 w1 w.heap.size (.int .i64 0) (.slice none 0 0) := (Var2.new w _ _ _).below hb1
    have ⟨⟨zR, cR, dR⟩, fR, gR⟩ := R1
    have bw1 : Below w.heap.size w w1 := Below.trans (by repeat (first | exact Below.refl _ _ | assumption | refine Below.alloc ?_ (by first | exact Nat.le_refl _ | (simp only [World.size_alloc, World.size_setCell, World.size_drew]; omega) | omega) _ | refine Below.setCell ?_ (by first | exact Nat.le_refl _ | (simp only [World.size_alloc, World.size_setCell, World.size_drew]; omega) | omega) _ | refine Below.drew ?_)) (hb1.mono (by first | (simp only [World.size_alloc, World.size_setCell, World.size_drew]; omega) | omega))
    clear hb1
    go_wp2_with fail
    have R3 := R1.set (.int .i64 0) (.slice none 0 0)
    refine bodyPost_ret (v := .tuple #[.agg #[.int .i64 0, .slice none 0 0], .bool false]) (by have ⟨⟨_, q1, q2⟩, _, _⟩ := R3; simp [results, Try.results56, go_sem, q1, q2]) rfl ?_
    refine ⟨none, 0, ?_, ?_, ?_⟩
    · rw [H1.out, H2.out]; rfl
    · rw [H2.out]; exact OwnI.nil _ _
    · exact (bw1.setCell (by simp) _).setCell (by simp) _
  · have ⟨hn10, hbd⟩ := goodV_iff.1 hg
    have H1 : Hid (ooN cs n = (n : Int)) := by simp [Hid, ooN, hg]
    have H2 : Hid (ooL cs n = ivo cs n n) := by simp [Hid, ooL, hg]
    have HG := Lib.hid hg
    clear hg hbd
    go_enter Try.func56, Try.ntmps56
    go_wp2_with fail
    refine (iAreIntervals_any _ _ _ _ _ hx1 HL.out hn).mono ?_
    rw [HG.out]
    rintro e w1 ⟨rfl, hb1⟩
    have R1 : Var2 w1 w.heap.size (.int .i64 0) (.slice none 0 0) := (Var2.new w _ _ _).below hb1
    have bw1 : Below w.heap.size w w1 := Below.trans (by repeat (first | exact Below.refl _ _ | assumption | refine Below.alloc ?_ (by first | exact Nat.le_refl _ | (simp only [World.size_alloc, World.size_setCell, World.size_drew]; omega) | omega) _ | refine Below.setCell ?_ (by first | exact Nat.le_refl _ | (simp only [World.size_alloc, World.size_setCell, World.size_drew]; omega) | omega) _ | refine Below.drew ?_)) (hb1.mono (by first | (simp only [World.size_alloc, World.size_setCell, World.size_drew]; omega) | omega))
    have hz1' : w.heap.size + 1 ≤ w1.heap.size := by have := R1.1.1; omega
    clear hb1
    go_wp2_with (at_make; refine wpList_make_full _ rfl (.tmp 12) (.tmp 12) 23 rfl (w.heap.size + 1) 3 i0 (.int .i64 0) 1 Try.underlying23 hi hz0 hz1 .i64 .i64 _ _ n rfl rfl rfl rfl (by rw [hz2]; omega) (by unfold maxLen; omega) hz1' ?_; intro w2 hown hgrow)
    have R2 := R1.kept hgrow (by simp)
    have hb2 : Below w.heap.size w w2 := bw1.grown hgrow bw1.size (fun k h => by cases h)
    have hown0 := made_row (ivE cs n) hown
    obtain ⟨g, hg⟩ : ∃ g, g = w1.heap.size := ⟨_, rfl⟩
    rw [← hg] at hown0 ⊢
    have hgz : w.heap.size + 1 ≤ g := by omega
    clear hown hgrow R1 hg
    go_wp2_with fail
    go_loopw [16] (fun i wr => ∃ k : Nat, k ≤ n ∧ i = .int .i64 k ∧ OwnI wr (w.heap.size + 1) (.slice (some ⟨g, 0, none⟩) n n) (rowF (ivE cs n) n k) ∧ Below w.heap.size w wr ∧ Var2 wr w.heap.size (.int .i64 0) (.slice none 0 0)) (fun i _ => n - (intOf i).toNat)
    case atStart => exact ⟨0, Nat.zero_le _, rfl, hown0, hb2, R2⟩
    case round =>
      obtain ⟨k, hk, rfl, hown, hb, hR⟩ := hrel
      have hzr := hb.size
      by_cases hlt : k < n
      · obtain ⟨b, off, rfl, hbl, hc1, hc2⟩ := (hx.below hb).pair HL.out hlt
        have k0 : (0 : Int) ≤ (k : Int) := by omega
        have k1 : (k : Int) < (n : Int) := by omega
        go_wp2_with fail
        refine (cmpBefore_any _ _ _ _ _ _ _ ((hx.below hb).alloc _) HL.out hn10).mono ?_
        rintro e w3 ⟨rfl, hb3⟩
        have ht3 : Below wr.heap.size wr w3 := Below.trans (by repeat (first | exact Below.refl _ _ | assumption | refine Below.alloc ?_ (by first | exact Nat.le_refl _ | (simp only [World.size_alloc, World.size_setCell, World.size_drew]; omega) | omega) _ | refine Below.setCell ?_ (by first | exact Nat.le_refl _ | (simp only [World.size_alloc, World.size_setCell, World.size_drew]; omega) | omega) _ | refine Below.drew ?_)) (hb3.mono (by first | (simp only [World.size_alloc, World.size_setCell, World.size_drew]; omega) | omega))
        have o3 := hown.below ht3 (Nat.le_refl _)
        have bw3 := hb.trans (ht3.mono hb.size)
        have R3 := hR.below ht3
        have hrl := rowF_len (ivE cs n) hk
        have ⟨ci, fi⟩ := o3.at' hrl.symm (i := k) (by omega)
        have hput := o3.put hrl.symm k (ivE cs n k)
        rw [rowF_set _ hlt] at hput
        have HP := Lib.hid hput.1
        have R4 := R3.kept hput.2 (by simp; omega)
        have bw4 := bw3.setCell (p := ⟨g, k, none⟩) (show w.heap.size ≤ g by omega) (.int .i64 (ivE cs n k))
        have HE : Hid (((befTo cs (rgt cs k) n : Nat) : Int) = ivE cs n k) := rfl
        rw [HE.out]
        clear hput hrl hown o3 hb3 hc1 hc2 R3
        go_wp2_with fail
        go_roundw
        case rel => exact ⟨k + 1, by omega, by go_num, HP.out, bw4, R4⟩
        case measure => simp [intOf]; omega
      · obtain rfl : k = n := by omega
        rw [rowF_end] at hown
        have ho : OwnI wr (w.heap.size + 1) (.slice (some ⟨g, 0, none⟩) k k) (ivo cs k k) := hown
        have ⟨⟨zR, cR, dR⟩, fR, gR⟩ := hR
        clear hown
        go_wp2_with fail
        have R3 := hR.set (.int .i64 (k : Int)) (.slice (some ⟨g, 0, none⟩) k k)
        refine bodyPost_ret (v := .tuple #[.agg #[.int .i64 (k : Int), .slice (some ⟨g, 0, none⟩) k k], .bool true]) (by have ⟨⟨_, q1, q2⟩, _, _⟩ := R3; simp [results, Try.results56, go_sem, q1, q2]) rfl ?_
        refine ⟨some ⟨g, 0, none⟩, k, ?_, ?_, ?_⟩
        · rw [H1.out, H2.out, ivo_len]
        · rw [H2.out, ivo_len]
          exact ((ho.setBelow (p := ⟨w.heap.size, 0, none⟩) (show w.heap.size < w.heap.size + 1 by omega) _).setBelow (p := ⟨w.heap.size, 1, none⟩) (show w.heap.size < w.heap.size + 1 by omega) _).mono (by omega)
        · exact (hb.setCell (p := ⟨w.heap.size, 0, none⟩) (Nat.le_refl _) _).setCell (p := ⟨w.heap.size, 1, none⟩) (Nat.le_refl _) _

theorem iInsert_any (n : Int) (a : Option Addr) (xs : List Int) (cap : Nat) (x y : Int) (w : World) (hn : -9223372036854775808 ≤ n ∧ n ≤ 9223372036854775807) (hx : Rd w a xs) :
    Calls Try.prog 32 #[.agg #[.int .i64 n, .slice a xs.length cap], .agg #[.int .i64 x, .int .i64 y]] w (GotO w (insN n xs x y) (insL n xs x y) (insB n xs x y)) := by
  have hx1 := ((hx.alloc (.cells #[.int .i64 n, .slice a xs.length cap] 32)).alloc (.cells #[.int .i64 x, .int .i64 y] 49)).alloc (.cells #[.int .i64 0, .slice none 0 0] 32)
  obtain ⟨i0, hi, hz0, hz1, hz2⟩ := info_parts infoIv
  cases hr : isIv n xs
  · have H1 : Hid (endN n xs = 0) := by simp [Hid, endN, hr]
    have H2 : Hid (endL n xs = []) := by simp [Hid, endL, hr]
    have hib : insB n xs x y = false := by simp [insB, hr]
    have H3 : Hid (insN n xs x y = 0) := by simp [Hid, insN, hib]
    have H4 : Hid (insL n xs x y = []) := by simp [Hid, insL, hib]
    have HI := Lib.hid hib
    have HR := Lib.hid hr
    clear hr hib
    go_enter Try.func32, Try.ntmps32
    go_wp2_with fail
    refine (iEnds_any _ _ _ _ _ hn hx1).mono ?_
    rw [HR.out, H1.out, H2.out]
    rintro e w1 ⟨p1, q1, rfl, ho1, hb1⟩
    have R1 : Var2 w1 (w.heap.size + 2) (.int .i64 0) (.slice none 0 0) := by
      have := (Var2.new ((w.alloc (.cells #[.int .i64 n, .slice a xs.length cap] 32)).alloc (.cells #[.int .i64 x, .int .i64 y] 49)) (.int .i64 0) (.slice none 0 0) 32).below hb1
      simpa using this
    have ⟨⟨zR, cR, dR⟩, fR, gR⟩ := R1
    have bw1 : Below w.heap.size w w1 := Below.trans (by repeat (first | exact Below.refl _ _ | assumption | refine Below.alloc ?_ (by first | exact Nat.le_refl _ | (simp only [World.size_alloc, World.size_setCell, World.size_drew]; omega) | omega) _ | refine Below.setCell ?_ (by first | exact Nat.le_refl _ | (simp only [World.size_alloc, World.size_setCell, World.size_drew]; omega) | omega) _ | refine Below.drew ?_)) (hb1.mono (by first | (simp only [World.size_alloc, World.size_setCell, World.size_drew]; omega) | omega))
    clear hb1 ho1
    go_wp2_with fail
    have R3 := R1.set (.int .i64 0) (.slice none 0 0)
    refine bodyPost_ret (v := .tuple #[.agg #[.int .i64 0, .slice none 0 0], .bool false]) (by have ⟨⟨_, q1, q2⟩, _, _⟩ := R3; simp [results, Try.results32, go_sem, q1, q2]) rfl ?_
    refine ⟨none, 0, ?_, ?_, ?_⟩
    · rw [H3.out, H4.out, HI.out]; rfl
    · rw [H4.out]; exact OwnI.nil _ _
    · exact (bw1.setCell (p := ⟨w.heap.size + 2, 0, none⟩) (show w.heap.size ≤ w.heap.size + 2 by omega) _).setCell (p := ⟨w.heap.size + 2, 1, none⟩) (show w.heap.size ≤ w.heap.size + 2 by omega) _
  · have hp := ord_rel (isIv_ord hr)
    have h10 : xs.length ≤ 10 := by have := hp.len; have := hp.n1; omega
    have H1 : Hid (endN n xs = xs.length) := by simp [Hid, endN, hr]
    have H2 : Hid (endL n xs = endp xs xs.length) := by simp [Hid, endL, hr]
    have H3 : Hid (ooN (insC xs x y) (xs.length + 1) = insN n xs x y) := ins_ooN hr
    have H4 : Hid (ooL (insC xs x y) (xs.length + 1) = insL n xs x y) := ins_ooL hr
    have H5 : Hid (goodV (insC xs x y) (xs.length + 1) = insB n xs x y) := ins_good hr
    have HC : Hid (insC xs x y = endp xs xs.length ++ [x, y]) := rfl
    have HCL := Lib.hid (insC_len xs x y)
    have HR := Lib.hid hr
    clear hr hp
    go_enter Try.func32, Try.ntmps32
    go_wp2_with fail
    refine (iEnds_any _ _ _ _ _ hn hx1).mono ?_
    rw [HR.out, H1.out, H2.out]
    rintro e w1 ⟨p1, q1, rfl, ho1, hb1⟩
    have I1 : Box2 w1 (w.heap.size + 1) (.int .i64 x) (.int .i64 y) := by
      have := ((Box2.new (w.alloc (.cells #[.int .i64 n, .slice a xs.length cap] 32)) (.int .i64 x) (.int .i64 y) 49).below ((Below.refl _ _).alloc (Nat.le_refl _) (.cells #[.int .i64 0, .slice none 0 0] 32))).below hb1
      simpa using this
    have R1 : Var2 w1 (w.heap.size + 2) (.int .i64 0) (.slice none 0 0) := by
      have := (Var2.new ((w.alloc (.cells #[.int .i64 n, .slice a xs.length cap] 32)).alloc (.cells #[.int .i64 x, .int .i64 y] 49)) (.int .i64 0) (.slice none 0 0) 32).below hb1
      simpa using this
    have ⟨zI, cI, dI⟩ := I1
    have bw1 : Below w.heap.size w w1 := Below.trans (by repeat (first | exact Below.refl _ _ | assumption | refine Below.alloc ?_ (by first | exact Nat.le_refl _ | (simp only [World.size_alloc, World.size_setCell, World.size_drew]; omega) | omega) _ | refine Below.setCell ?_ (by first | exact Nat.le_refl _ | (simp only [World.size_alloc, World.size_setCell, World.size_drew]; omega) | omega) _ | refine Below.drew ?_)) (hb1.mono (by first | (simp only [World.size_alloc, World.size_setCell, World.size_drew]; omega) | omega))
    have hz1' := bw1.size
    have o1 : OwnV w1 (w.heap.size + 3) (.slice p1 xs.length q1) xs.length (endp xs xs.length) := by simpa using ho1
    have hU := o1.lt
    have hzR := R1.1.1
    clear hb1 ho1
    go_wp2_with (at_builtin; refine wpList_append_own _ rfl _ _ 30 rfl (w.heap.size + 3) 49 i0 (.agg #[.int .i64 0, .int .i64 0]) 2 16 Try.underlying30 hi hz0 hz1 hz2 rfl (by decide) (.slice p1 xs.length q1) xs.length ((endp xs xs.length).map (Value.int .i64)) rfl (o1.alloc (.cells #[.int .i64 x, .int .i64 y] 49)) ⟨w1.heap.size, 0, none⟩ 1 1 [.int .i64 x, .int .i64 y] rfl rfl (cell_two_new _ _ _ _) (two_one _ _) (by unfold maxLen; omega) (by omega) (by simp; omega) ?_)
    intro v' w3 hown3 hgrow _
    have hg2 := grown_alloc_set hgrow
    have o3 : OwnV w3 (w.heap.size + 3) v' (xs.length + 1) (insC xs x y) := by
      rw [HC.out]
      unfold OwnV
      rw [List.map_append]
      exact hown3
    have bw3 := bw1.trans (below_of_grown hg2 (fun c e => by have := hU c e; omega) hz1')
    have R3 := R1.kept hg2 (ne_own (fun c e => by have := hU c e; omega))
    obtain ⟨a3, c3, rfl⟩ := o3.form
    have r3 := o3.rd (by omega)
    have hz3 := R3.1.1
    clear hown3 hgrow hg2 o3
    go_wp2_with fail
    refine (iOrderOfIv_any _ _ _ _ _ r3 HCL.out (by omega)).mono ?_
    rw [H3.out, H4.out, H5.out]
    rintro e w4 ⟨p4, q4, rfl, ho4, hb4⟩
    have R4 := R3.below hb4
    have ⟨⟨zR, cR, dR⟩, fR, gR⟩ := R4
    have bw4 := bw3.trans (hb4.mono bw3.size)
    go_wp2_with fail
    have R5 := R4.set (.int .i64 (insN n xs x y)) (.slice p4 (insL n xs x y).length q4)
    refine bodyPost_ret (v := .tuple #[.agg #[.int .i64 (insN n xs x y), .slice p4 (insL n xs x y).length q4], .bool (insB n xs x y)]) (by have ⟨⟨_, q1, q2⟩, _, _⟩ := R5; simp [results, Try.results32, go_sem, q1, q2]) rfl ?_
    refine ⟨p4, q4, rfl, ?_, ?_⟩
    · exact ((ho4.setBelow (p := ⟨w.heap.size + 2, 0, none⟩) (show w.heap.size + 2 < w3.heap.size by omega) _).setBelow (p := ⟨w.heap.size + 2, 1, none⟩) (show w.heap.size + 2 < w3.heap.size by omega) _).mono (show w.heap.size ≤ w3.heap.size by omega)
    · exact (bw4.setCell (p := ⟨w.heap.size + 2, 0, none⟩) (show w.heap.size ≤ w.heap.size + 2 by omega) _).setCell (p := ⟨w.heap.size + 2, 1, none⟩) (show w.heap.size ≤ w.heap.size + 2 by omega) _

theorem cells2 {w w' : World} {b1 b2 : Nat} {u1 v1 u2 v2 : Value} (h1 : Box2 w b1 u1 v1) (h2 : Box2 w b2 u2 v2) (hb : Below w.heap.size w w') :
    w'.cell? ⟨b1, 0, none⟩ = some u1 ∧ w'.cell? ⟨b1, 1, none⟩ = some v1 ∧ w'.cell? ⟨b2, 0, none⟩ = some u2 ∧ w'.cell? ⟨b2, 1, none⟩ = some v2 :=
  ⟨(h1.below hb).2.1, (h1.below hb).2.2, (h2.below hb).2.1, (h2.below hb).2.2⟩
theorem cells2set {w : World} {b1 b2 : Nat} {u1 v1 u2 v2 x y : Value} {b : Nat} (h1 : Box2 w b1 u1 v1) (h2 : Box2 w b2 u2 v2) (e1 : b1 ≠ b) (e2 : b2 ≠ b) :
    ((w.setCell ⟨b, 0, none⟩ x).setCell ⟨b, 1, none⟩ y).cell? ⟨b1, 0, none⟩ = some u1 ∧ ((w.setCell ⟨b, 0, none⟩ x).setCell ⟨b, 1, none⟩ y).cell? ⟨b1, 1, none⟩ = some v1 ∧ ((w.setCell ⟨b, 0, none⟩ x).setCell ⟨b, 1, none⟩ y).cell? ⟨b2, 0, none⟩ = some u2 ∧ ((w.setCell ⟨b, 0, none⟩ x).setCell ⟨b, 1, none⟩ y).cell? ⟨b2, 1, none⟩ = some v2 := by
  have k1 := (h1.set (p := ⟨b, 0, none⟩) x e1).set (p := ⟨b, 1, none⟩) y e1
  have k2 := (h2.set (p := ⟨b, 0, none⟩) x e2).set (p := ⟨b, 1, none⟩) y e2
  exact ⟨k1.2.1, k1.2.2, k2.2.1, k2.2.2⟩
theorem endO {wi wd : World} {B b cap : Nat} {x : Value} {a2 : Option Addr} {L : List Int} (V : Var2 wd b (.int .i64 0) (.slice none 0 0)) (ho : OwnI wd B (.slice a2 L.length cap) L) (hb : b < B) (hi : wi.heap.size ≤ b) (ht : Below wi.heap.size wi wd) :
    Box2 ((wd.setCell ⟨b, 0, none⟩ x).setCell ⟨b, 1, none⟩ (.slice a2 L.length cap)) b x (.slice a2 L.length cap) ∧ OwnI ((wd.setCell ⟨b, 0, none⟩ x).setCell ⟨b, 1, none⟩ (.slice a2 L.length cap)) wi.heap.size (.slice a2 L.length cap) L ∧ (∀ c, (Value.slice a2 L.length cap).ownBlock = some c → c ≠ b) ∧ wi.heap.size ≤ b ∧ Below wi.heap.size wi ((wd.setCell ⟨b, 0, none⟩ x).setCell ⟨b, 1, none⟩ (.slice a2 L.length cap)) :=
  ⟨(V.set x (.slice a2 L.length cap)).1, ((ho.setBelow (p := ⟨b, 0, none⟩) hb x).setBelow (p := ⟨b, 1, none⟩) hb _).mono (by omega), fun c e => by have := (ho.lt c e).1; omega, hi, (ht.setCell (p := ⟨b, 0, none⟩) hi x).setCell (p := ⟨b, 1, none⟩) hi _⟩
theorem endA {wi wd : World} {B cap : Nat} {x : Value} {a2 : Option Addr} {L : List Int} {t : TypeId} (ho : OwnI wd B (.slice a2 L.length cap) L) (ht : Below wi.heap.size wi wd) (hB : wi.heap.size ≤ B) :
    Box2 (wd.alloc (.cells #[x, .slice a2 L.length cap] t)) wd.heap.size x (.slice a2 L.length cap) ∧ OwnI (wd.alloc (.cells #[x, .slice a2 L.length cap] t)) wi.heap.size (.slice a2 L.length cap) L ∧ (∀ c, (Value.slice a2 L.length cap).ownBlock = some c → c ≠ wd.heap.size) ∧ wi.heap.size ≤ wd.heap.size ∧ Below wi.heap.size wi (wd.alloc (.cells #[x, .slice a2 L.length cap] t)) :=
  ⟨Box2.new _ _ _ _, (ho.mono hB).alloc _, fun c e => by have := (ho.lt c e).2; omega, ht.size, ht.alloc ht.size _⟩

theorem toInterval_any (x y : Int) (w : World) :
    Calls Try.prog 31 #[.agg #[.int .i64 x, .int .i64 y]] w fun e w' => e = .returned (.agg #[.int .i64 x, .int .i64 y]) ∧ Below w.heap.size w w' := by
  go_enter Try.func31, Try.ntmps31
  go_wp2
  refine bodyPost_ret (v := .agg #[.int .i64 x, .int .i64 y]) (by simp [results, Try.results31, go_sem]) rfl ⟨rfl, ?_⟩
  exact (by repeat (first | exact Below.refl _ _ | assumption | refine Below.alloc ?_ (by first | exact Nat.le_refl _ | (simp only [World.size_alloc, World.size_setCell, World.size_drew]; omega) | omega) _ | refine Below.setCell ?_ (by first | exact Nat.le_refl _ | (simp only [World.size_alloc, World.size_setCell, World.size_drew]; omega) | omega) _ | refine Below.drew ?_))

/-- the marks k, k + 1, .. -/
def marks (k : Int) (n : Nat) : List Int := (List.range n).map (fun (j : Nat) => k + (j : Int))
theorem marks_len (k : Int) (n : Nat) : (marks k n).length = n := by simp [marks]
theorem marks_nth {k : Int} {n j : Nat} (h : j < n) : nth (marks k n) j = k + j := by
  simp [nth, marks, h]
theorem mark_step (k : Int) (xs : List Int) (j : Nat) (h : j < xs.length) :
    ((marks k j ++ xs.drop j).map (Value.int .i64)).set j (.int .i64 (k + j)) = (marks k (j+1) ++ xs.drop (j+1)).map (Value.int .i64) := by
  apply List.ext_getElem?
  intro i
  rw [List.getElem?_set]
  by_cases hj : j = i
  · subst hj
    rw [if_pos rfl, if_pos (by simp [marks_len]; omega), List.getElem?_map, List.getElem?_append_left (by rw [marks_len]; omega)]
    simp [marks]
  · simp only [hj, if_false, List.getElem?_map, List.getElem?_append, marks_len, List.getElem?_drop]
    by_cases h1 : i < j
    · have h2 : i < j + 1 := by omega
      simp [h1, h2, marks]
    · have h2 : ¬ i < j + 1 := by omega
      have h3 : j + (i - j) = j + 1 + (i - (j + 1)) := by omega
      simp [h1, h2, h3]
theorem own_ne {v u : Value} (h : ∀ c, v.ownBlock = some c → u.ownBlock ≠ some c) : v.ownBlock = none ∨ v.ownBlock ≠ u.ownBlock := by
  cases hv : v.ownBlock with
  | none => exact .inl rfl
  | some c => exact .inr (fun e => h c hv e.symm)

theorem markIntS_any (a : Option Addr) (xs : List Int) (cap : Nat) (k : Int) (B : Nat) (w : World) (h0 : 0 ≤ k) (h1 : k ≤ 1099511627776) (hn : xs.length ≤ 1048576) (ho : OwnI w B (.slice a xs.length cap) xs) :
    Calls Try.prog 28 #[.slice a xs.length cap, .int .i64 k] w fun e w' => e = .returned (.int .i64 (k + xs.length)) ∧ OwnI w' B (.slice a xs.length cap) (marks k xs.length) ∧ w.grownBy w' (Value.slice a xs.length cap).ownBlock := by
  go_enter Try.func28, Try.ntmps28
  go_wp2_with fail
  go_loopw [1, 5] (fun k' i wr => ∃ j : Nat, j ≤ xs.length ∧ i = .int .i64 j ∧ k' = .int .i64 (k + j) ∧ wr.ownsRow B 3 1 (.slice a xs.length cap) xs.length ((marks k j ++ xs.drop j).map (Value.int .i64)) ∧ w.grownBy wr (Value.slice a xs.length cap).ownBlock) (fun _ i _ => xs.length - (intOf i).toNat)
  case atStart => exact ⟨0, Nat.zero_le _, rfl, by simp, by (have e : marks k 0 ++ xs.drop 0 = xs := by simp [marks]); rw [e]; exact ho, World.grownBy.refl _ _⟩
  case round =>
    obtain ⟨j, hj, rfl, rfl, hown, hg⟩ := hrel
    by_cases hlt : j < xs.length
    · obtain ⟨g, rfl⟩ : ∃ g, a = some ⟨g, 0, none⟩ := by
        rcases hown.2 with ⟨e, h⟩ | ⟨g, c, cur, e, _⟩
        · omega
        · simp only [Value.slice.injEq] at e
          exact ⟨g, e.1⟩
      have hst := World.ownsRow.stored hown j (.int .i64 (k + j))
      rw [mark_step k xs j hlt] at hst
      have hcc := World.ownsRow.cellAt hown j (by omega)
      have hfr := World.ownsRow.frozenAt hown j
      have hcc' : ∃ u, wr.cell? ⟨g, j, none⟩ = some u := by
        rw [hcc]
        exact ⟨_, List.getElem?_eq_getElem (by simp [marks_len]; omega)⟩
      obtain ⟨u, hu⟩ := hcc'
      have Hst := Lib.hid hst
      have Hg := Lib.hid (grown_trans hg hst.2)
      clear hst hcc hown hg
      go_wp2
      go_roundw
      case rel => exact ⟨j + 1, by omega, by go_num, by go_num, Hst.out.1, Hg.out⟩
      case measure => simp [intOf]; omega
    · obtain rfl : j = xs.length := by omega
      go_wp2
      go_ret
      refine ⟨rfl, ?_, hg⟩
      have e : marks k xs.length ++ xs.drop xs.length = marks k xs.length := by simp
      rw [e] at hown
      show World.ownsRow _ _ _ _ _ _ _
      rw [marks_len]
      exact hown

theorem markOrder_any (n : Int) (a : Option Addr) (xs : List Int) (cap : Nat) (k : Int) (B : Nat) (w : World) (h0 : 0 ≤ k) (h1 : k ≤ 1099511627776) (hn : xs.length ≤ 1048576) (ho : OwnI w B (.slice a xs.length cap) xs) :
    Calls Try.prog 27 #[.agg #[.int .i64 n, .slice a xs.length cap], .int .i64 k] w fun e w' => e = .returned (.int .i64 (k + xs.length)) ∧ OwnI w' B (.slice a xs.length cap) (marks k xs.length) ∧ w.grownBy w' (Value.slice a xs.length cap).ownBlock := by
  go_enter Try.func27, Try.ntmps27
  go_wp2_with fail
  refine (markIntS_any _ _ _ _ B _ h0 h1 hn (ho.alloc _)).mono ?_
  rintro e w1 ⟨rfl, ho1, hg1⟩
  go_wp2_with fail
  go_ret
  exact ⟨rfl, ho1, grown_alloc_set hg1⟩

theorem heldIntS_any (a : Option Addr) (n cap : Nat) (k : Int) (w : World) (h0 : 0 ≤ k) (h1 : k ≤ 1099511627776) (hn : n ≤ 1048576) (hx : Rd w a (marks k n)) :
    Calls Try.prog 29 #[.slice a n cap, .int .i64 k] w fun e w' => e = .returned (.int .i64 (k + n)) ∧ Below w.heap.size w w' := by
  go_enter Try.func29, Try.ntmps29
  go_wp2_with fail
  go_loop [1, 5] (fun k' i => ∃ j : Nat, j ≤ n ∧ i = .int .i64 j ∧ k' = .int .i64 (k + j)) (fun _ i => n - (intOf i).toNat)
  case atStart => exact ⟨0, Nat.zero_le _, rfl, by simp⟩
  case round =>
    obtain ⟨j, hj, rfl, rfl⟩ := hrel
    by_cases hlt : j < n
    · obtain ⟨b, off, rfl, hbl, hc⟩ := hx.cell j (by rw [marks_len]; exact hlt)
      rw [marks_nth hlt] at hc
      go_wp2_with fail
      go_round
      case rel => exact ⟨j + 1, by omega, by go_num, by go_num⟩
      case measure => simp [intOf]; omega
    · obtain rfl : j = n := by omega
      go_wp2_with fail
      go_ret
      exact ⟨rfl, (by repeat (first | exact Below.refl _ _ | assumption | refine Below.alloc ?_ (by first | exact Nat.le_refl _ | (simp only [World.size_alloc, World.size_setCell, World.size_drew]; omega) | omega) _ | refine Below.setCell ?_ (by first | exact Nat.le_refl _ | (simp only [World.size_alloc, World.size_setCell, World.size_drew]; omega) | omega) _ | refine Below.drew ?_))⟩

theorem heldOrder_any (m : Int) (a : Option Addr) (n cap : Nat) (k : Int) (w : World) (h0 : 0 ≤ k) (h1 : k ≤ 1099511627776) (hn : n ≤ 1048576) (hx : Rd w a (marks k n)) :
    Calls Try.prog 33 #[.agg #[.int .i64 m, .slice a n cap], .int .i64 k] w fun e w' => e = .returned (.int .i64 (k + n)) ∧ Below w.heap.size w w' := by
  have hp : 0 ≤ k + n := by omega
  go_enter Try.func33, Try.ntmps33
  go_wp2_with fail
  refine (heldIntS_any _ _ _ _ _ h0 h1 hn (hx.alloc _)).mono ?_
  rintro e w1 ⟨rfl, hb1⟩
  go_wp2_with fail
  go_ret
  exact ⟨rfl, Below.trans (by repeat (first | exact Below.refl _ _ | assumption | refine Below.alloc ?_ (by first | exact Nat.le_refl _ | (simp only [World.size_alloc, World.size_setCell, World.size_drew]; omega) | omega) _ | refine Below.setCell ?_ (by first | exact Nat.le_refl _ | (simp only [World.size_alloc, World.size_setCell, World.size_drew]; omega) | omega) _ | refine Below.drew ?_)) (hb1.mono (by first | (simp only [World.size_alloc, World.size_setCell, World.size_drew]; omega) | omega))⟩

set_option maxRecDepth 100000 in
set_option maxHeartbeats 4000000 in
theorem walk (n0 : Int) (a0 : Option Addr) (xs0 : List Int) (cap0 : Nat) (x1 y1 : Int) (w : World) (hn0 : -9223372036854775808 ≤ n0 ∧ n0 ≤ 9223372036854775807) (hx0 : Rd w a0 xs0) :
    Calls Try.prog 6 #[.agg #[.int .i64 n0, .slice a0 xs0.length cap0], .agg #[.int .i64 x1, .int .i64 y1]] w fun e w' => e = .returned (.bool true) ∧ Below w.heap.size w w' := by
  have hR0 : (insL n0 xs0 x1 y1).length ≤ 1048576 := insL_len n0 xs0 x1 y1
  by_cases hs0 : 1048576 < (xs0.length : Int)
  · go_enter Try.func6, Try.ntmps6
    go_wp2_with fail
    refine (szOrder_no (by omega) (by omega) (by omega) hx0.len).mono ?_
    rintro e w1 ⟨rfl, hb1⟩
    have bw1 : Below w.heap.size w w1 := Below.trans (by repeat (first | exact Below.refl _ _ | assumption | refine Below.alloc ?_ (by first | exact Nat.le_refl _ | (simp only [World.size_alloc, World.size_setCell, World.size_drew]; omega) | omega) _ | refine Below.setCell ?_ (by first | exact Nat.le_refl _ | (simp only [World.size_alloc, World.size_setCell, World.size_drew]; omega) | omega) _ | refine Below.drew ?_)) (hb1.mono (by first | (simp only [World.size_alloc, World.size_setCell, World.size_drew]; omega) | omega))
    have A0_1 : Box2 w1 w.heap.size (.int .i64 n0) (.slice a0 xs0.length cap0) := ⟨by have := hb1.size; simp at this; omega, (hb1.cell (p := ⟨w.heap.size, 0, none⟩) (by simp <;> omega)).trans (by simp), (hb1.cell (p := ⟨w.heap.size, 1, none⟩) (by simp <;> omega)).trans (by simp)⟩
    have ⟨zA0_1, cA0_1, dA0_1⟩ := A0_1
    have A1_1 : Box2 w1 (w.heap.size + 1) (.int .i64 x1) (.int .i64 y1) := ⟨by have := hb1.size; simp at this; omega, (hb1.cell (p := ⟨(w.heap.size + 1), 0, none⟩) (by simp <;> omega)).trans (by simp), (hb1.cell (p := ⟨(w.heap.size + 1), 1, none⟩) (by simp <;> omega)).trans (by simp)⟩
    have ⟨zA1_1, cA1_1, dA1_1⟩ := A1_1
    go_wp2_with fail
    go_ret
    exact ⟨rfl, bw1⟩
  go_enter Try.func6, Try.ntmps6
  go_wp2_with fail
  refine (szOrder_ok (by omega) (by omega)).mono ?_
  rintro e w1 ⟨rfl, hb⟩
  have bw1 : Below w.heap.size w w1 := Below.trans (by repeat (first | exact Below.refl _ _ | assumption | refine Below.alloc ?_ (by first | exact Nat.le_refl _ | (simp only [World.size_alloc, World.size_setCell, World.size_drew]; omega) | omega) _ | refine Below.setCell ?_ (by first | exact Nat.le_refl _ | (simp only [World.size_alloc, World.size_setCell, World.size_drew]; omega) | omega) _ | refine Below.drew ?_)) (hb.mono (by first | (simp only [World.size_alloc, World.size_setCell, World.size_drew]; omega) | omega))
  have z1 : w.heap.size ≤ w1.heap.size := bw1.size
  have A0_1 : Box2 w1 w.heap.size (.int .i64 n0) (.slice a0 xs0.length cap0) := ⟨by have := hb.size; simp at this; omega, (hb.cell (p := ⟨w.heap.size, 0, none⟩) (by simp <;> omega)).trans (by simp), (hb.cell (p := ⟨w.heap.size, 1, none⟩) (by simp <;> omega)).trans (by simp)⟩
  have ⟨zA0_1, cA0_1, dA0_1⟩ := A0_1
  have A1_1 : Box2 w1 (w.heap.size + 1) (.int .i64 x1) (.int .i64 y1) := ⟨by have := hb.size; simp at this; omega, (hb.cell (p := ⟨(w.heap.size + 1), 0, none⟩) (by simp <;> omega)).trans (by simp), (hb.cell (p := ⟨(w.heap.size + 1), 1, none⟩) (by simp <;> omega)).trans (by simp)⟩
  have ⟨zA1_1, cA1_1, dA1_1⟩ := A1_1
  clear hb
  go_wp2_with fail
  go_cut [6, 7] (fun s6 s7 wx => ∃ (b6 : Nat) (a2 : Option Addr) (cap2 : Nat), s6 = .pointer (some ⟨b6, 0, none⟩) ∧ s7 = .bool (insB n0 xs0 x1 y1) ∧ Box2 wx b6 (.int .i64 (insN n0 xs0 x1 y1)) (.slice a2 (insL n0 xs0 x1 y1).length cap2) ∧ OwnI wx w1.heap.size (.slice a2 (insL n0 xs0 x1 y1).length cap2) (insL n0 xs0 x1 y1) ∧ (∀ b, (Value.slice a2 (insL n0 xs0 x1 y1).length cap2).ownBlock = some b → b ≠ b6) ∧ w1.heap.size ≤ b6 ∧ Below w1.heap.size w1 wx)
  case first =>
    go_region_held3 (fun w' => w'.cell? ⟨w.heap.size, 0, none⟩ = some (.int .i64 n0) ∧ w'.cell? ⟨w.heap.size, 1, none⟩ = some (.slice a0 xs0.length cap0) ∧ w'.cell? ⟨(w.heap.size + 1), 0, none⟩ = some (.int .i64 x1) ∧ w'.cell? ⟨(w.heap.size + 1), 1, none⟩ = some (.int .i64 y1))
      (first | exact cells2 QA0d QA1d (by first | exact Below.refl _ _ | exact (Below.refl _ _).alloc (Nat.le_refl _) _ | exact (Below.refl _ _).drew | exact ((Below.refl _ _).alloc (Nat.le_refl _) _).drew) | exact cells2 QA0b QA1b (by first | exact Below.refl _ _ | exact (Below.refl _ _).alloc (Nat.le_refl _) _ | exact (Below.refl _ _).drew | exact ((Below.refl _ _).alloc (Nat.le_refl _) _).drew) | exact cells2 QA0a QA1a (by first | exact Below.refl _ _ | exact (Below.refl _ _).alloc (Nat.le_refl _) _ | exact (Below.refl _ _).drew | exact ((Below.refl _ _).alloc (Nat.le_refl _) _).drew) | exact cells2 A0_1 A1_1 (by first | exact Below.refl _ _ | exact (Below.refl _ _).alloc (Nat.le_refl _) _ | exact (Below.refl _ _).drew | exact ((Below.refl _ _).alloc (Nat.le_refl _) _).drew) | exact cells2set QA0d QA1d (by have := hta.size; have := htb.size; omega) (by have := hta.size; have := htb.size; omega) | go_keep)
      (first | (go_at_call 30; refine (sInsert_any _ _ _ _ _ _ _ hn0 (rT.below (by first | exact Below.refl _ _ | exact (Below.refl _ _).alloc (Nat.le_refl _) _ | exact (Below.refl _ _).drew | exact ((Below.refl _ _).alloc (Nat.le_refl _) _).drew))).mono ?_; rintro e wd ⟨pR, qR, rfl, ho, hbd⟩; have htd : Below wb.heap.size wb wd := (by first | exact hbd | exact Below.trans (Below.refl _ wb).drew (hbd.mono (Nat.le_refl _)) | exact Below.trans ((Below.refl _ wb).alloc (Nat.le_refl _) (.cells #[.int .i64 0, .slice none 0 0] 32)) (hbd.mono (by simp)) | exact Below.trans (((Below.refl _ wb).alloc (Nat.le_refl _) (.cells #[.int .i64 0, .slice none 0 0] 32)).drew) (hbd.mono (by simp))); have htx := hta.trans ((htb.trans (htd.mono htb.size)).mono hta.size); have QA0d := QA0b.below htd; have QA1d := QA1b.below htd; (try have Vd : Var2 wd wb.heap.size (.int .i64 0) (.slice none 0 0) := (by first | exact Var2.below (w := (wb.alloc (.cells #[.int .i64 0, .slice none 0 0] 32)).drew) (Var2.new wb _ _ _) hbd | exact Var2.below (w := wb.alloc (.cells #[.int .i64 0, .slice none 0 0] 32)) (Var2.new wb _ _ _) hbd)); (try have Vd := Vb.below htd); (try have ⟨⟨zV, cV, dV⟩, fV, gV⟩ := Vd)) | (have _g := bwa; go_at_call 31; refine (toInterval_any _ _ _).mono ?_; rintro e wb ⟨rfl, hbb⟩; have htb : Below wa.heap.size wa wb := (by first | exact hbb | exact Below.trans (Below.refl _ wa).drew (hbb.mono (Nat.le_refl _)) | exact Below.trans ((Below.refl _ wa).alloc (Nat.le_refl _) (.cells #[.int .i64 0, .slice none 0 0] 32)) (hbb.mono (by simp)) | exact Below.trans (((Below.refl _ wa).alloc (Nat.le_refl _) (.cells #[.int .i64 0, .slice none 0 0] 32)).drew) (hbb.mono (by simp))); have bwb := bwa.trans (htb.mono bwa.size); have rT := oT.rd.below htb; have QA0b := QA0a.below htb; have QA1b := QA1a.below htb; (try have Vb : Var2 wb wa.heap.size (.int .i64 0) (.slice none 0 0) := (by first | exact Var2.below (w := (wa.alloc (.cells #[.int .i64 0, .slice none 0 0] 32)).drew) (Var2.new wa _ _ _) hbb | exact Var2.below (w := wa.alloc (.cells #[.int .i64 0, .slice none 0 0] 32)) (Var2.new wa _ _ _) hbb)); (try have Vb := Va.below htb)) | (go_at_call 18; refine (toOrder_any _ _ _ _ _ (hx0.below (by first | exact bw1.drew | exact (bw1.alloc bw1.size (.cells #[.int .i64 0, .slice none 0 0] 32)).drew | exact bw1 | exact bw1.alloc bw1.size (.cells #[.int .i64 0, .slice none 0 0] 32))) (by omega)).mono ?_; rintro e wa ⟨pT, qT, rfl, oT, hba⟩; have hta : Below w1.heap.size w1 wa := (by first | exact hba | exact Below.trans (Below.refl _ w1).drew (hba.mono (Nat.le_refl _)) | exact Below.trans ((Below.refl _ w1).alloc (Nat.le_refl _) (.cells #[.int .i64 0, .slice none 0 0] 32)) (hba.mono (by simp)) | exact Below.trans (((Below.refl _ w1).alloc (Nat.le_refl _) (.cells #[.int .i64 0, .slice none 0 0] 32)).drew) (hba.mono (by simp))); have bwa := bw1.trans (hta.mono bw1.size); have QA0a := A0_1.below hta; have QA1a := A1_1.below hta; (try have Va : Var2 wa w1.heap.size (.int .i64 0) (.slice none 0 0) := (by first | exact Var2.below (w := (w1.alloc (.cells #[.int .i64 0, .slice none 0 0] 32)).drew) (Var2.new w1 _ _ _) hba | exact Var2.below (w := w1.alloc (.cells #[.int .i64 0, .slice none 0 0] 32)) (Var2.new w1 _ _ _) hba))))
    all_goals
      go_wp2_with fail
      go_meet
      first
        | exact ⟨_, _, _, rfl, rfl, endA ho htx (by have := hta.size; have := htb.size; simp; omega)⟩
        | exact ⟨_, _, _, rfl, rfl, endO Vd ho (by have h1 := hta.size; have h2 := htb.size; (try have h3 := Va.1.1); (try have h4 := Vb.1.1); simp; try omega) (by have h1 := hta.size; have h2 := htb.size; omega) htx⟩
  case rest =>
  obtain ⟨w2, hwc⟩ : ∃ x : World, x = wc := ⟨_, rfl⟩
  subst hwc
  obtain ⟨b6R, pR0, qR0, rfl, rfl, BR0_2, ho0, UUR, hlR, ht⟩ := hcut
  have z2 : w1.heap.size ≤ w2.heap.size := ht.size
  have bw2 : Below w.heap.size w w2 := bw1.trans (ht.mono bw1.size)
  have hkR : b6R < w2.heap.size := BR0_2.1
  have A0_2 := A0_1.below ht
  have A1_2 := A1_1.below ht
  have ⟨zA0_2, cA0_2, dA0_2⟩ := A0_2
  have ⟨zA1_2, cA1_2, dA1_2⟩ := A1_2
  clear A0_1 cA0_1 dA0_1 A1_1 cA1_1 dA1_1
  have R0_2 := ho0
  have UR0 := R0_2.cut (Nat.le_refl _)
  clear ho0
  have ⟨zBR0_2, cBR0_2, dBR0_2⟩ := BR0_2
  clear ht
  go_wp2_with fail
  refine (toOrder_any _ _ _ _ _ (hx0.below bw2) (by omega)).mono ?_
  rintro e w3 ⟨pX0, qX0, rfl, ho, hb⟩
  have ht : Below w2.heap.size w2 w3 := hb
  have z3 : w2.heap.size ≤ w3.heap.size := ht.size
  have bw3 : Below w.heap.size w w3 := bw2.trans (ht.mono bw2.size)
  have A0_3 := A0_2.below ht
  have A1_3 := A1_2.below ht
  have BR0_3 := BR0_2.below ht
  have ⟨zA0_3, cA0_3, dA0_3⟩ := A0_3
  have ⟨zA1_3, cA1_3, dA1_3⟩ := A1_3
  have ⟨zBR0_3, cBR0_3, dBR0_3⟩ := BR0_3
  have R0_3 := R0_2.below ht (Nat.le_refl _)
  clear A0_2 cA0_2 dA0_2 A1_2 cA1_2 dA1_2 BR0_2 cBR0_2 dBR0_2 R0_2
  have X0_3 := ho
  have UX0 := X0_3.cut (Nat.le_refl _)
  clear ho
  clear ht hb
  go_wp2_with fail
  obtain ⟨w4, hw⟩ : ∃ x : World, x = w3.alloc (.cells #[.int .i64 n0, .slice pX0 xs0.length qX0] 32) := ⟨_, rfl⟩
  rw [← hw]
  have ht : Below w3.heap.size w3 w4 := by rw [hw]; exact (Below.refl _ _).alloc (Nat.le_refl _) _
  have hb : Below (w3.alloc (.cells #[.int .i64 n0, .slice pX0 xs0.length qX0] 32)).heap.size (w3.alloc (.cells #[.int .i64 n0, .slice pX0 xs0.length qX0] 32)) w4 := by rw [hw]; exact Below.refl _ _
  have z4 : w3.heap.size ≤ w4.heap.size := ht.size
  have bw4 : Below w.heap.size w w4 := bw3.trans (ht.mono bw3.size)
  have A0_4 := A0_3.below ht
  have A1_4 := A1_3.below ht
  have BR0_4 := BR0_3.below ht
  have BX0_4 : Box2 w4 w3.heap.size (.int .i64 n0) (.slice pX0 xs0.length qX0) := (Box2.new w3 _ _ 32).below hb
  have ⟨zA0_4, cA0_4, dA0_4⟩ := A0_4
  have ⟨zA1_4, cA1_4, dA1_4⟩ := A1_4
  have ⟨zBR0_4, cBR0_4, dBR0_4⟩ := BR0_4
  have ⟨zBX0_4, cBX0_4, dBX0_4⟩ := BX0_4
  have R0_4 := R0_3.below ht (Nat.le_refl _)
  have X0_4 := X0_3.below ht (Nat.le_refl _)
  clear A0_3 cA0_3 dA0_3 A1_3 cA1_3 dA1_3 BR0_3 cBR0_3 dBR0_3 R0_3 X0_3
  clear ht hb hw
  go_cut [9, 10] (fun s6 s7 wx => ∃ (b6 : Nat) (a2 : Option Addr) (cap2 : Nat), s6 = .pointer (some ⟨b6, 0, none⟩) ∧ s7 = .bool (insB n0 xs0 x1 y1) ∧ Box2 wx b6 (.int .i64 (insN n0 xs0 x1 y1)) (.slice a2 (insL n0 xs0 x1 y1).length cap2) ∧ OwnI wx w4.heap.size (.slice a2 (insL n0 xs0 x1 y1).length cap2) (insL n0 xs0 x1 y1) ∧ (∀ b, (Value.slice a2 (insL n0 xs0 x1 y1).length cap2).ownBlock = some b → b ≠ b6) ∧ w4.heap.size ≤ b6 ∧ Below w4.heap.size w4 wx)
  case first =>
    go_region_held3 (fun w' => w'.cell? ⟨w3.heap.size, 0, none⟩ = some (.int .i64 n0) ∧ w'.cell? ⟨w3.heap.size, 1, none⟩ = some (.slice pX0 xs0.length qX0) ∧ w'.cell? ⟨(w.heap.size + 1), 0, none⟩ = some (.int .i64 x1) ∧ w'.cell? ⟨(w.heap.size + 1), 1, none⟩ = some (.int .i64 y1))
      (first | exact cells2 QBX0d QA1d (by first | exact Below.refl _ _ | exact (Below.refl _ _).alloc (Nat.le_refl _) _ | exact (Below.refl _ _).drew | exact ((Below.refl _ _).alloc (Nat.le_refl _) _).drew) | exact cells2 QBX0a QA1a (by first | exact Below.refl _ _ | exact (Below.refl _ _).alloc (Nat.le_refl _) _ | exact (Below.refl _ _).drew | exact ((Below.refl _ _).alloc (Nat.le_refl _) _).drew) | exact cells2 BX0_4 A1_4 (by first | exact Below.refl _ _ | exact (Below.refl _ _).alloc (Nat.le_refl _) _ | exact (Below.refl _ _).drew | exact ((Below.refl _ _).alloc (Nat.le_refl _) _).drew) | exact cells2set QBX0d QA1d (by have := hta.size; omega) (by have := hta.size; omega) | go_keep)
      (first | (have _g := hta; go_at_call 32; refine (iInsert_any _ _ _ _ _ _ _ hn0 (rX.below (by first | exact Below.refl _ _ | exact (Below.refl _ _).alloc (Nat.le_refl _) _ | exact (Below.refl _ _).drew | exact ((Below.refl _ _).alloc (Nat.le_refl _) _).drew))).mono ?_; rintro e wd ⟨pR, qR, rfl, ho, hbd⟩; have htd : Below wa.heap.size wa wd := (by first | exact hbd | exact Below.trans (Below.refl _ wa).drew (hbd.mono (Nat.le_refl _)) | exact Below.trans ((Below.refl _ wa).alloc (Nat.le_refl _) (.cells #[.int .i64 0, .slice none 0 0] 32)) (hbd.mono (by simp)) | exact Below.trans (((Below.refl _ wa).alloc (Nat.le_refl _) (.cells #[.int .i64 0, .slice none 0 0] 32)).drew) (hbd.mono (by simp))); have htx := hta.trans (htd.mono hta.size); have QBX0d := QBX0a.below htd; have QA1d := QA1a.below htd; (try have Vd : Var2 wd wa.heap.size (.int .i64 0) (.slice none 0 0) := (by first | exact Var2.below (w := (wa.alloc (.cells #[.int .i64 0, .slice none 0 0] 32)).drew) (Var2.new wa _ _ _) hbd | exact Var2.below (w := wa.alloc (.cells #[.int .i64 0, .slice none 0 0] 32)) (Var2.new wa _ _ _) hbd)); (try have Vd := Va.below htd); (try have ⟨⟨zV, cV, dV⟩, fV, gV⟩ := Vd)) | (go_at_call 31; refine (toInterval_any _ _ _).mono ?_; rintro e wa ⟨rfl, hba⟩; have hta : Below w4.heap.size w4 wa := (by first | exact hba | exact Below.trans (Below.refl _ w4).drew (hba.mono (Nat.le_refl _)) | exact Below.trans ((Below.refl _ w4).alloc (Nat.le_refl _) (.cells #[.int .i64 0, .slice none 0 0] 32)) (hba.mono (by simp)) | exact Below.trans (((Below.refl _ w4).alloc (Nat.le_refl _) (.cells #[.int .i64 0, .slice none 0 0] 32)).drew) (hba.mono (by simp))); have rX := X0_4.rd.below hta; have QBX0a := BX0_4.below hta; have QA1a := A1_4.below hta; (try have Va : Var2 wa w4.heap.size (.int .i64 0) (.slice none 0 0) := (by first | exact Var2.below (w := (w4.alloc (.cells #[.int .i64 0, .slice none 0 0] 32)).drew) (Var2.new w4 _ _ _) hba | exact Var2.below (w := w4.alloc (.cells #[.int .i64 0, .slice none 0 0] 32)) (Var2.new w4 _ _ _) hba))))
    all_goals
      go_wp2_with fail
      go_meet
      first
        | exact ⟨_, _, _, rfl, rfl, endA ho htx (by have := hta.size; simp; omega)⟩
        | exact ⟨_, _, _, rfl, rfl, endO Vd ho (by have h1 := hta.size; (try have h3 := Va.1.1); simp; try omega) (by have h1 := hta.size; omega) htx⟩
  case rest =>
  obtain ⟨w5, hwc⟩ : ∃ x : World, x = wc := ⟨_, rfl⟩
  subst hwc
  obtain ⟨b6G, pG0, qG0, rfl, rfl, BG0_5, ho0, UUG, hlG, ht⟩ := hcut
  have z5 : w4.heap.size ≤ w5.heap.size := ht.size
  have bw5 : Below w.heap.size w w5 := bw4.trans (ht.mono bw4.size)
  have hkG : b6G < w5.heap.size := BG0_5.1
  have A0_5 := A0_4.below ht
  have A1_5 := A1_4.below ht
  have BR0_5 := BR0_4.below ht
  have BX0_5 := BX0_4.below ht
  have ⟨zA0_5, cA0_5, dA0_5⟩ := A0_5
  have ⟨zA1_5, cA1_5, dA1_5⟩ := A1_5
  have ⟨zBR0_5, cBR0_5, dBR0_5⟩ := BR0_5
  have ⟨zBX0_5, cBX0_5, dBX0_5⟩ := BX0_5
  have R0_5 := R0_4.below ht (Nat.le_refl _)
  have X0_5 := X0_4.below ht (Nat.le_refl _)
  clear A0_4 cA0_4 dA0_4 A1_4 cA1_4 dA1_4 BR0_4 cBR0_4 dBR0_4 BX0_4 cBX0_4 dBX0_4 R0_4 X0_4
  have G0_5 := ho0
  have UG0 := G0_5.cut (Nat.le_refl _)
  clear ho0
  have ⟨zBG0_5, cBG0_5, dBG0_5⟩ := BG0_5
  clear ht
  go_wp2_with fail
  refine (eqOrder_any _ _ _ _ (insL n0 xs0 x1 y1) (insL n0 xs0 x1 y1) _ _ _ (G0_5.rd) (R0_5.rd)).mono ?_
  rw [eqO_refl]
  rintro e w6 ⟨rfl, hb⟩
  have ht : Below w5.heap.size w5 w6 := hb
  have z6 : w5.heap.size ≤ w6.heap.size := ht.size
  have bw6 : Below w.heap.size w w6 := bw5.trans (ht.mono bw5.size)
  have A0_6 := A0_5.below ht
  have A1_6 := A1_5.below ht
  have BR0_6 := BR0_5.below ht
  have BX0_6 := BX0_5.below ht
  have BG0_6 := BG0_5.below ht
  have ⟨zA0_6, cA0_6, dA0_6⟩ := A0_6
  have ⟨zA1_6, cA1_6, dA1_6⟩ := A1_6
  have ⟨zBR0_6, cBR0_6, dBR0_6⟩ := BR0_6
  have ⟨zBX0_6, cBX0_6, dBX0_6⟩ := BX0_6
  have ⟨zBG0_6, cBG0_6, dBG0_6⟩ := BG0_6
  have R0_6 := R0_5.below ht (Nat.le_refl _)
  have X0_6 := X0_5.below ht (Nat.le_refl _)
  have G0_6 := G0_5.below ht (Nat.le_refl _)
  clear A0_5 cA0_5 dA0_5 A1_5 cA1_5 dA1_5 BR0_5 cBR0_5 dBR0_5 BX0_5 cBX0_5 dBX0_5 BG0_5 cBG0_5 dBG0_5 R0_5 X0_5 G0_5
  clear ht hb
  go_wp2_with fail
  go_region_held3 (fun w' => w'.cell? ⟨w.heap.size, 0, none⟩ = some (.int .i64 n0) ∧ w'.cell? ⟨w.heap.size, 1, none⟩ = some (.slice a0 xs0.length cap0) ∧ w'.cell? ⟨w3.heap.size, 0, none⟩ = some (.int .i64 n0) ∧ w'.cell? ⟨w3.heap.size, 1, none⟩ = some (.slice pX0 xs0.length qX0))
    (first | exact ⟨P8.2.1, P8.2.2, Q8.2.1, Q8.2.2⟩ | exact ⟨P7.2.1, P7.2.2, Q7.2.1, Q7.2.2⟩ | go_keep)
    (first | (go_at_call 18; refine (toOrder_any _ _ _ _ _ (hx0.below (bw6.trans (Joins.below_draws _ _ _))) (by omega)).mono ?_; rintro e w7 ⟨a7', cap7', rfl, ho7, hb7⟩; have ht7 : Below w6.heap.size w6 w7 := (Joins.below_draws _ _ _).trans hb7; have P7 := A0_6.below ht7; have Q7 := BX0_6.below ht7) | (go_at_call 21; refine (eqOrder_any _ _ _ _ xs0 xs0 _ _ _ (X0_6.rd.below ht7) ho7.rd).mono ?_; rw [eqO_refl]; rintro e w8 ⟨rfl, hb8⟩; have P8 := P7.below hb8; have Q8 := Q7.below hb8))
  have ht : Below w6.heap.size w6 w8 := ht7.trans (hb8.mono ht7.size)
  have z8 : w6.heap.size ≤ w8.heap.size := ht.size
  have bw8 : Below w.heap.size w w8 := bw6.trans (ht.mono bw6.size)
  clear P7 Q7 P8 Q8 ho7
  have A0_8 := A0_6.below ht
  have A1_8 := A1_6.below ht
  have BR0_8 := BR0_6.below ht
  have BX0_8 := BX0_6.below ht
  have BG0_8 := BG0_6.below ht
  have ⟨zA0_8, cA0_8, dA0_8⟩ := A0_8
  have ⟨zA1_8, cA1_8, dA1_8⟩ := A1_8
  have ⟨zBR0_8, cBR0_8, dBR0_8⟩ := BR0_8
  have ⟨zBX0_8, cBX0_8, dBX0_8⟩ := BX0_8
  have ⟨zBG0_8, cBG0_8, dBG0_8⟩ := BG0_8
  have R0_8 := R0_6.below ht (Nat.le_refl _)
  have X0_8 := X0_6.below ht (Nat.le_refl _)
  have G0_8 := G0_6.below ht (Nat.le_refl _)
  clear A0_6 cA0_6 dA0_6 A1_6 cA1_6 dA1_6 BR0_6 cBR0_6 dBR0_6 BX0_6 cBX0_6 dBX0_6 BG0_6 cBG0_6 dBG0_6 R0_6 X0_6 G0_6
  clear ht hb8 ht7 hb7
  go_wp2_with fail
  refine (markOrder_any _ _ _ _ _ _ _ (by omega) (by omega) (by omega) X0_8).mono ?_
  rintro e w9 ⟨rfl, ho, hg⟩
  have z9 : w8.heap.size ≤ w9.heap.size := hg.size
  have bw9 : Below w.heap.size w w9 := bw8.trans (below_of_grown hg (fun b e => by have := UX0 b e; omega) (by omega))
  have A0_9 := A0_8.kept hg (ne_own (fun c e => by have := UX0 c e; omega))
  have ⟨zA0_9, cA0_9, dA0_9⟩ := A0_9
  have A1_9 := A1_8.kept hg (ne_own (fun c e => by have := UX0 c e; omega))
  have ⟨zA1_9, cA1_9, dA1_9⟩ := A1_9
  have BR0_9 := BR0_8.kept hg (ne_own (fun c e => by have := UX0 c e; omega))
  have ⟨zBR0_9, cBR0_9, dBR0_9⟩ := BR0_9
  have BX0_9 := BX0_8.kept hg (ne_own (fun c e => by have := UX0 c e; omega))
  have ⟨zBX0_9, cBX0_9, dBX0_9⟩ := BX0_9
  have BG0_9 := BG0_8.kept hg (ne_own (fun c e => by have := UX0 c e; omega))
  have ⟨zBG0_9, cBG0_9, dBG0_9⟩ := BG0_9
  have R0_9 := R0_8.kept hg (own_ne (fun c e e2 => by have h1 := UR0 c e; have h2 := UX0 c e2; omega))
  have G0_9 := G0_8.kept hg (own_ne (fun c e e2 => by have h1 := UG0 c e; have h2 := UX0 c e2; omega))
  clear A0_8 cA0_8 dA0_8 A1_8 cA1_8 dA1_8 BR0_8 cBR0_8 dBR0_8 BX0_8 cBX0_8 dBX0_8 BG0_8 cBG0_8 dBG0_8 R0_8 X0_8 G0_8 hg
  have X0_9 := ho
  clear ho
  go_wp2_with fail
  refine (eqOrder_any _ _ _ _ (insL n0 xs0 x1 y1) (insL n0 xs0 x1 y1) _ _ _ (G0_9.rd) (R0_9.rd)).mono ?_
  rw [eqO_refl]
  rintro e w10 ⟨rfl, hb⟩
  have ht : Below w9.heap.size w9 w10 := hb
  have z10 : w9.heap.size ≤ w10.heap.size := ht.size
  have bw10 : Below w.heap.size w w10 := bw9.trans (ht.mono bw9.size)
  have A0_10 := A0_9.below ht
  have A1_10 := A1_9.below ht
  have BR0_10 := BR0_9.below ht
  have BX0_10 := BX0_9.below ht
  have BG0_10 := BG0_9.below ht
  have ⟨zA0_10, cA0_10, dA0_10⟩ := A0_10
  have ⟨zA1_10, cA1_10, dA1_10⟩ := A1_10
  have ⟨zBR0_10, cBR0_10, dBR0_10⟩ := BR0_10
  have ⟨zBX0_10, cBX0_10, dBX0_10⟩ := BX0_10
  have ⟨zBG0_10, cBG0_10, dBG0_10⟩ := BG0_10
  have R0_10 := R0_9.below ht (Nat.le_refl _)
  have X0_10 := X0_9.below ht (Nat.le_refl _)
  have G0_10 := G0_9.below ht (Nat.le_refl _)
  clear A0_9 cA0_9 dA0_9 A1_9 cA1_9 dA1_9 BR0_9 cBR0_9 dBR0_9 BX0_9 cBX0_9 dBX0_9 BG0_9 cBG0_9 dBG0_9 R0_9 X0_9 G0_9
  clear ht hb
  go_wp2_with fail
  refine (markOrder_any _ _ _ _ _ _ _ (by omega) (by omega) hR0 G0_10).mono ?_
  rintro e w11 ⟨rfl, ho, hg⟩
  have z11 : w10.heap.size ≤ w11.heap.size := hg.size
  have bw11 : Below w.heap.size w w11 := bw10.trans (below_of_grown hg (fun b e => by have := UG0 b e; omega) (by omega))
  have A0_11 := A0_10.kept hg (ne_own (fun c e => by have := UG0 c e; omega))
  have ⟨zA0_11, cA0_11, dA0_11⟩ := A0_11
  have A1_11 := A1_10.kept hg (ne_own (fun c e => by have := UG0 c e; omega))
  have ⟨zA1_11, cA1_11, dA1_11⟩ := A1_11
  have BR0_11 := BR0_10.kept hg (ne_own (fun c e => by have := UG0 c e; omega))
  have ⟨zBR0_11, cBR0_11, dBR0_11⟩ := BR0_11
  have BX0_11 := BX0_10.kept hg (ne_own (fun c e => by have := UG0 c e; omega))
  have ⟨zBX0_11, cBX0_11, dBX0_11⟩ := BX0_11
  have BG0_11 := BG0_10.kept hg (ne_own (fun c e => by have := UG0 c e; have h2 := UUG c e; omega))
  have ⟨zBG0_11, cBG0_11, dBG0_11⟩ := BG0_11
  have R0_11 := R0_10.kept hg (own_ne (fun c e e2 => by have h1 := UR0 c e; have h2 := UG0 c e2; omega))
  have X0_11 := X0_10.kept hg (own_ne (fun c e e2 => by have h1 := UX0 c e; have h2 := UG0 c e2; omega))
  clear A0_10 cA0_10 dA0_10 A1_10 cA1_10 dA1_10 BR0_10 cBR0_10 dBR0_10 BX0_10 cBX0_10 dBX0_10 BG0_10 cBG0_10 dBG0_10 R0_10 X0_10 G0_10 hg
  have G0_11 := ho
  clear ho
  go_wp2_with fail
  refine (heldOrder_any _ _ _ _ _ _ (by omega) (by omega) hR0 G0_11.rd).mono ?_
  rintro e w12 ⟨rfl, hb⟩
  have ht : Below w11.heap.size w11 w12 := hb
  have z12 : w11.heap.size ≤ w12.heap.size := ht.size
  have bw12 : Below w.heap.size w w12 := bw11.trans (ht.mono bw11.size)
  have A0_12 := A0_11.below ht
  have A1_12 := A1_11.below ht
  have BR0_12 := BR0_11.below ht
  have BX0_12 := BX0_11.below ht
  have BG0_12 := BG0_11.below ht
  have ⟨zA0_12, cA0_12, dA0_12⟩ := A0_12
  have ⟨zA1_12, cA1_12, dA1_12⟩ := A1_12
  have ⟨zBR0_12, cBR0_12, dBR0_12⟩ := BR0_12
  have ⟨zBX0_12, cBX0_12, dBX0_12⟩ := BX0_12
  have ⟨zBG0_12, cBG0_12, dBG0_12⟩ := BG0_12
  have R0_12 := R0_11.below ht (Nat.le_refl _)
  have X0_12 := X0_11.below ht (Nat.le_refl _)
  have G0_12 := G0_11.below ht (Nat.le_refl _)
  clear A0_11 cA0_11 dA0_11 A1_11 cA1_11 dA1_11 BR0_11 cBR0_11 dBR0_11 BX0_11 cBX0_11 dBX0_11 BG0_11 cBG0_11 dBG0_11 R0_11 X0_11 G0_11
  clear ht hb
  go_wp2_with fail
  clear X0_12 UX0
  go_cut [14, 15] (fun s6 s7 wx => ∃ (b6 : Nat) (a2 : Option Addr) (cap2 : Nat), s6 = .pointer (some ⟨b6, 0, none⟩) ∧ s7 = .bool (insB n0 xs0 x1 y1) ∧ Box2 wx b6 (.int .i64 (insN n0 xs0 x1 y1)) (.slice a2 (insL n0 xs0 x1 y1).length cap2) ∧ OwnI wx w12.heap.size (.slice a2 (insL n0 xs0 x1 y1).length cap2) (insL n0 xs0 x1 y1) ∧ (∀ b, (Value.slice a2 (insL n0 xs0 x1 y1).length cap2).ownBlock = some b → b ≠ b6) ∧ w12.heap.size ≤ b6 ∧ Below w12.heap.size w12 wx)
  case first =>
    go_region_held3 (fun w' => w'.cell? ⟨w.heap.size, 0, none⟩ = some (.int .i64 n0) ∧ w'.cell? ⟨w.heap.size, 1, none⟩ = some (.slice a0 xs0.length cap0) ∧ w'.cell? ⟨(w.heap.size + 1), 0, none⟩ = some (.int .i64 x1) ∧ w'.cell? ⟨(w.heap.size + 1), 1, none⟩ = some (.int .i64 y1))
      (first | exact cells2 QA0d QA1d (by first | exact Below.refl _ _ | exact (Below.refl _ _).alloc (Nat.le_refl _) _ | exact (Below.refl _ _).drew | exact ((Below.refl _ _).alloc (Nat.le_refl _) _).drew) | exact cells2 QA0b QA1b (by first | exact Below.refl _ _ | exact (Below.refl _ _).alloc (Nat.le_refl _) _ | exact (Below.refl _ _).drew | exact ((Below.refl _ _).alloc (Nat.le_refl _) _).drew) | exact cells2 QA0a QA1a (by first | exact Below.refl _ _ | exact (Below.refl _ _).alloc (Nat.le_refl _) _ | exact (Below.refl _ _).drew | exact ((Below.refl _ _).alloc (Nat.le_refl _) _).drew) | exact cells2 A0_12 A1_12 (by first | exact Below.refl _ _ | exact (Below.refl _ _).alloc (Nat.le_refl _) _ | exact (Below.refl _ _).drew | exact ((Below.refl _ _).alloc (Nat.le_refl _) _).drew) | exact cells2set QA0d QA1d (by have := hta.size; have := htb.size; omega) (by have := hta.size; have := htb.size; omega) | go_keep)
      (first | (go_at_call 32; refine (iInsert_any _ _ _ _ _ _ _ hn0 (rT.below (by first | exact Below.refl _ _ | exact (Below.refl _ _).alloc (Nat.le_refl _) _ | exact (Below.refl _ _).drew | exact ((Below.refl _ _).alloc (Nat.le_refl _) _).drew))).mono ?_; rintro e wd ⟨pR, qR, rfl, ho, hbd⟩; have htd : Below wb.heap.size wb wd := (by first | exact hbd | exact Below.trans (Below.refl _ wb).drew (hbd.mono (Nat.le_refl _)) | exact Below.trans ((Below.refl _ wb).alloc (Nat.le_refl _) (.cells #[.int .i64 0, .slice none 0 0] 32)) (hbd.mono (by simp)) | exact Below.trans (((Below.refl _ wb).alloc (Nat.le_refl _) (.cells #[.int .i64 0, .slice none 0 0] 32)).drew) (hbd.mono (by simp))); have htx := hta.trans ((htb.trans (htd.mono htb.size)).mono hta.size); have QA0d := QA0b.below htd; have QA1d := QA1b.below htd; (try have Vd : Var2 wd wb.heap.size (.int .i64 0) (.slice none 0 0) := (by first | exact Var2.below (w := (wb.alloc (.cells #[.int .i64 0, .slice none 0 0] 32)).drew) (Var2.new wb _ _ _) hbd | exact Var2.below (w := wb.alloc (.cells #[.int .i64 0, .slice none 0 0] 32)) (Var2.new wb _ _ _) hbd)); (try have Vd := Vb.below htd); (try have ⟨⟨zV, cV, dV⟩, fV, gV⟩ := Vd)) | (have _g := bwa; go_at_call 31; refine (toInterval_any _ _ _).mono ?_; rintro e wb ⟨rfl, hbb⟩; have htb : Below wa.heap.size wa wb := (by first | exact hbb | exact Below.trans (Below.refl _ wa).drew (hbb.mono (Nat.le_refl _)) | exact Below.trans ((Below.refl _ wa).alloc (Nat.le_refl _) (.cells #[.int .i64 0, .slice none 0 0] 32)) (hbb.mono (by simp)) | exact Below.trans (((Below.refl _ wa).alloc (Nat.le_refl _) (.cells #[.int .i64 0, .slice none 0 0] 32)).drew) (hbb.mono (by simp))); have bwb := bwa.trans (htb.mono bwa.size); have rT := oT.rd.below htb; have QA0b := QA0a.below htb; have QA1b := QA1a.below htb; (try have Vb : Var2 wb wa.heap.size (.int .i64 0) (.slice none 0 0) := (by first | exact Var2.below (w := (wa.alloc (.cells #[.int .i64 0, .slice none 0 0] 32)).drew) (Var2.new wa _ _ _) hbb | exact Var2.below (w := wa.alloc (.cells #[.int .i64 0, .slice none 0 0] 32)) (Var2.new wa _ _ _) hbb)); (try have Vb := Va.below htb)) | (go_at_call 18; refine (toOrder_any _ _ _ _ _ (hx0.below (by first | exact bw12.drew | exact (bw12.alloc bw12.size (.cells #[.int .i64 0, .slice none 0 0] 32)).drew | exact bw12 | exact bw12.alloc bw12.size (.cells #[.int .i64 0, .slice none 0 0] 32))) (by omega)).mono ?_; rintro e wa ⟨pT, qT, rfl, oT, hba⟩; have hta : Below w12.heap.size w12 wa := (by first | exact hba | exact Below.trans (Below.refl _ w12).drew (hba.mono (Nat.le_refl _)) | exact Below.trans ((Below.refl _ w12).alloc (Nat.le_refl _) (.cells #[.int .i64 0, .slice none 0 0] 32)) (hba.mono (by simp)) | exact Below.trans (((Below.refl _ w12).alloc (Nat.le_refl _) (.cells #[.int .i64 0, .slice none 0 0] 32)).drew) (hba.mono (by simp))); have bwa := bw12.trans (hta.mono bw12.size); have QA0a := A0_12.below hta; have QA1a := A1_12.below hta; (try have Va : Var2 wa w12.heap.size (.int .i64 0) (.slice none 0 0) := (by first | exact Var2.below (w := (w12.alloc (.cells #[.int .i64 0, .slice none 0 0] 32)).drew) (Var2.new w12 _ _ _) hba | exact Var2.below (w := w12.alloc (.cells #[.int .i64 0, .slice none 0 0] 32)) (Var2.new w12 _ _ _) hba))))
    all_goals
      go_wp2_with fail
      go_meet
      first
        | exact ⟨_, _, _, rfl, rfl, endA ho htx (by have := hta.size; have := htb.size; simp; omega)⟩
        | exact ⟨_, _, _, rfl, rfl, endO Vd ho (by have h1 := hta.size; have h2 := htb.size; (try have h3 := Va.1.1); (try have h4 := Vb.1.1); simp; try omega) (by have h1 := hta.size; have h2 := htb.size; omega) htx⟩
  case rest =>
  obtain ⟨w13, hwc⟩ : ∃ x : World, x = wc := ⟨_, rfl⟩
  subst hwc
  obtain ⟨b6H, pH0, qH0, rfl, rfl, BH0_13, ho0, UUH, hlH, ht⟩ := hcut
  have z13 : w12.heap.size ≤ w13.heap.size := ht.size
  have bw13 : Below w.heap.size w w13 := bw12.trans (ht.mono bw12.size)
  have hkH : b6H < w13.heap.size := BH0_13.1
  have A0_13 := A0_12.below ht
  have A1_13 := A1_12.below ht
  have BR0_13 := BR0_12.below ht
  have BX0_13 := BX0_12.below ht
  have BG0_13 := BG0_12.below ht
  have ⟨zA0_13, cA0_13, dA0_13⟩ := A0_13
  have ⟨zA1_13, cA1_13, dA1_13⟩ := A1_13
  have ⟨zBR0_13, cBR0_13, dBR0_13⟩ := BR0_13
  have ⟨zBX0_13, cBX0_13, dBX0_13⟩ := BX0_13
  have ⟨zBG0_13, cBG0_13, dBG0_13⟩ := BG0_13
  have R0_13 := R0_12.below ht (Nat.le_refl _)
  have G0_13 := G0_12.below ht (Nat.le_refl _)
  clear A0_12 cA0_12 dA0_12 A1_12 cA1_12 dA1_12 BR0_12 cBR0_12 dBR0_12 BX0_12 cBX0_12 dBX0_12 BG0_12 cBG0_12 dBG0_12 R0_12 G0_12
  have H0_13 := ho0
  have UH0 := H0_13.cut (Nat.le_refl _)
  clear ho0
  have ⟨zBH0_13, cBH0_13, dBH0_13⟩ := BH0_13
  clear ht
  go_wp2_with fail
  refine (eqOrder_any _ _ _ _ (insL n0 xs0 x1 y1) (insL n0 xs0 x1 y1) _ _ _ (H0_13.rd) (R0_13.rd)).mono ?_
  rw [eqO_refl]
  rintro e w14 ⟨rfl, hb⟩
  have ht : Below w13.heap.size w13 w14 := hb
  have z14 : w13.heap.size ≤ w14.heap.size := ht.size
  have bw14 : Below w.heap.size w w14 := bw13.trans (ht.mono bw13.size)
  have A0_14 := A0_13.below ht
  have A1_14 := A1_13.below ht
  have BR0_14 := BR0_13.below ht
  have BX0_14 := BX0_13.below ht
  have BG0_14 := BG0_13.below ht
  have BH0_14 := BH0_13.below ht
  have ⟨zA0_14, cA0_14, dA0_14⟩ := A0_14
  have ⟨zA1_14, cA1_14, dA1_14⟩ := A1_14
  have ⟨zBR0_14, cBR0_14, dBR0_14⟩ := BR0_14
  have ⟨zBX0_14, cBX0_14, dBX0_14⟩ := BX0_14
  have ⟨zBG0_14, cBG0_14, dBG0_14⟩ := BG0_14
  have ⟨zBH0_14, cBH0_14, dBH0_14⟩ := BH0_14
  have R0_14 := R0_13.below ht (Nat.le_refl _)
  have G0_14 := G0_13.below ht (Nat.le_refl _)
  have H0_14 := H0_13.below ht (Nat.le_refl _)
  clear A0_13 cA0_13 dA0_13 A1_13 cA1_13 dA1_13 BR0_13 cBR0_13 dBR0_13 BX0_13 cBX0_13 dBX0_13 BG0_13 cBG0_13 dBG0_13 BH0_13 cBH0_13 dBH0_13 R0_13 G0_13 H0_13
  clear ht hb
  go_wp2_with fail
  refine (heldOrder_any _ _ _ _ _ _ (by omega) (by omega) hR0 G0_14.rd).mono ?_
  rintro e w15 ⟨rfl, hb⟩
  have ht : Below w14.heap.size w14 w15 := hb
  have z15 : w14.heap.size ≤ w15.heap.size := ht.size
  have bw15 : Below w.heap.size w w15 := bw14.trans (ht.mono bw14.size)
  have A0_15 := A0_14.below ht
  have A1_15 := A1_14.below ht
  have BR0_15 := BR0_14.below ht
  have BX0_15 := BX0_14.below ht
  have BG0_15 := BG0_14.below ht
  have BH0_15 := BH0_14.below ht
  have ⟨zA0_15, cA0_15, dA0_15⟩ := A0_15
  have ⟨zA1_15, cA1_15, dA1_15⟩ := A1_15
  have ⟨zBR0_15, cBR0_15, dBR0_15⟩ := BR0_15
  have ⟨zBX0_15, cBX0_15, dBX0_15⟩ := BX0_15
  have ⟨zBG0_15, cBG0_15, dBG0_15⟩ := BG0_15
  have ⟨zBH0_15, cBH0_15, dBH0_15⟩ := BH0_15
  have R0_15 := R0_14.below ht (Nat.le_refl _)
  have G0_15 := G0_14.below ht (Nat.le_refl _)
  have H0_15 := H0_14.below ht (Nat.le_refl _)
  clear A0_14 cA0_14 dA0_14 A1_14 cA1_14 dA1_14 BR0_14 cBR0_14 dBR0_14 BX0_14 cBX0_14 dBX0_14 BG0_14 cBG0_14 dBG0_14 BH0_14 cBH0_14 dBH0_14 R0_14 G0_14 H0_14
  clear ht hb
  go_wp2_with fail
  go_ret
  exact ⟨rfl, bw15⟩

theorem rd_of_trod {H : Type} {enc : TypeId × Value → H} {W : World} {fuel : Nat} {c : Value} {y : DataW H × List MemPlace}
    (h : DataW.trod enc Try.prog W 0 (fun _ => true) true fuel 23 [c] = some y) : ∃ (a : Option Addr) (xs : List Int) (cap : Nat), c = .slice a xs.length cap ∧ Rd W a xs ∧ ∀ k, k < xs.length → (Lit.int .i64 (nth xs k)).wf = true := by
  rcases Go.ChangeShapes.open_ints Try.underlying23 Try.underlying3 (by kernel_rfl) h with ⟨hcs, _⟩ | ⟨x, len, cap, zs, hcs, _, hl, hm, hz, _, hcell, hwf⟩
  · simp only [List.cons.injEq, and_true] at hcs
    exact ⟨none, [], 0, hcs, ⟨by simp, fun k hk => by simp at hk⟩, fun k hk => by simp at hk⟩
  · simp only [List.cons.injEq, and_true] at hcs
    simp only [if_true] at hz
    have hlen : (zs.take len).length = len := by rw [List.length_take]; omega
    have hn : ∀ k, k < len → nth (zs.take len) k = zs.getD k 0 := by
      intro k hk
      simp only [nth, List.getD_eq_getElem?_getD, List.getElem?_take, hk, if_true]
    refine ⟨some x, zs.take len, cap, by rw [hlen]; exact hcs, ⟨by rw [hlen]; unfold maxLen at hm; omega, fun k hk => ?_⟩, fun k hk => ?_⟩
    · rw [hlen] at hk
      obtain ⟨b, off, sp⟩ := x
      have h0 := hcell 0 (by omega)
      have hsp : sp = none := by simpa [Addr.add] using World.cell?_spot h0
      subst hsp
      have hk' := hcell k (by omega)
      rw [Addr.add_lit] at hk'
      exact ⟨b, off, rfl, World.block_lt_of_cell? _ _ h0, by rw [hk', hn k hk]⟩
    · rw [hlen] at hk
      rw [hn k hk]
      have hk2 : k < zs.length := by omega
      exact hwf _ (by rw [List.getD_eq_getElem?_getD, List.getElem?_eq_getElem hk2]; exact List.getElem_mem hk2)

theorem own : ownKnob Try.prog.godebug = none := by kernel_rfl
theorem laidOut : laidOutB Try.prog = true := by kernel_rfl
theorem wf_bd {n : Int} (h : (Lit.int .i64 n).wf = true) : -9223372036854775808 ≤ n ∧ n ≤ 9223372036854775807 := by
  simp [Lit.wf, IntKind.min, IntKind.max, IntKind.bits, IntKind.signed] at h
  omega

theorem cellsO : Try.prog.cellsOf 25 = 2 := by kernel_rfl

theorem cellsP : Try.prog.cellsOf 46 = 2 := by kernel_rfl

open Go.ChangeShapes Go.WideShapes Go.ChangeAt Go.RowKit in
set_option maxRecDepth 100000 in
theorem lifted (os : Os) (started : os.Started) (H : Type) (enc : TypeId × Value → H) :
    ReturnsInHanded {} Try.checked os 6 .any (Rows.fnExactInsertIntervalSpec.pre6 enc Try.prog Try.f6 Rows.fnExactInsertIntervalRow.domain false) (Rows.fnExactInsertIntervalSpec.post enc Try.prog Try.f6 false true false false) := by
  refine returnsInHanded_of_change (C := Try.checked) own started (by kernel_rfl) Try.func6
    (ChangeSpec.witness6 (enc := enc) (C := Try.checked) false ⟨#[], #[.agg #[.int .i64 0, .slice none 0 0], .agg #[.int .i64 0, .int .i64 0]], []⟩ 8 (by kernel_rfl) (by kernel_rfl) (by kernel_rfl) (by kernel_rfl)) ?_
  intro W base args ds gs before hval0 hW hcnd _
  have hval : ∀ (j : Nat) t v, Try.f6.params[j]? = some t → args[j]? = some v → Value.okWide Try.prog W .any base t v := hval0
  have hW' := hW
  obtain ⟨p, q, hA0, hV, rfl, hfz, hnd⟩ := hW
  have hA : DataW.TrodAll enc Try.prog W 0 (fun _ => true) true Try.f6.params.toList args.toList ds p := hA0
  rw [Try.params6] at hA hval
  obtain ⟨v0, vs0, d0, ds0, p0, q0, hargs, rfl, rfl, h0, r0⟩ := trodAll_cons hA
  obtain ⟨v1, vs1, d1, ds1, p1, q1, rfl, rfl, rfl, h1, r1⟩ := trodAll_cons r0
  obtain ⟨rfl, rfl, rfl⟩ := trodAll_nil r1
  obtain rfl : args = #[v0, v1] := by cases args; simp_all
  obtain ⟨rfl, rfl⟩ := trodVars_none hV
  have lt0 : ∀ x ∈ p0, x.block < W.heap.size := by obtain ⟨m, hm⟩ := h0; exact DataW.trod_lt m _ _ _ hm
  have lt1 : ∀ x ∈ p1, x.block < W.heap.size := by obtain ⟨m, hm⟩ := h1; exact DataW.trod_lt m _ _ _ hm
  obtain ⟨c00, c01, y00, y01, m0, rfl, hd0, hp0, hy00, hy01⟩ := Go.Joins.open_agg2 Try.underlying25 (by kernel_rfl) cellsO (hval 0 25 v0 rfl rfl) h0
  obtain ⟨n0, e00, _, wf0⟩ := DataW.trod_int Try.underlying3 hy00
  simp only [List.cons.injEq, and_true] at e00
  subst e00
  obtain ⟨a0, xs0, cap0, rfl, rd0, wl0⟩ := rd_of_trod hy01
  obtain ⟨c10, c11, y10, y11, m1, rfl, hd1, hp1, hy10, hy11⟩ := Go.Joins.open_agg2 Try.underlying46 (by kernel_rfl) cellsP (hval 1 46 v1 rfl rfl) h1
  obtain ⟨x1, e10, _, wf1⟩ := DataW.trod_int Try.underlying3 hy10
  obtain ⟨y1, e11, _, wg1⟩ := DataW.trod_int Try.underlying3 hy11
  simp only [List.cons.injEq, and_true] at e10 e11
  subst e10 e11
  clear hA0 hval0
  refine (walk n0 a0 xs0 cap0 x1 y1 W (wf_bd wf0) rd0 ).mono fun e W' ⟨he, bel⟩ => ?_
  subst he
  exact ⟨_, rfl, _, _, _, [], _, [], hW', trodAll_mk1 (shut_bool Try.underlying4 _), (trodAll_cons_mk (Below.trod laidOut (by kernel_rfl) (of_decide_eq_true (by kernel_rfl)) h0 bel lt0) (trodAll_cons_mk (Below.trod laidOut (by kernel_rfl) (of_decide_eq_true (by kernel_rfl)) h1 bel lt1) trodAll_mk0)), rfl, bel.frame _, fun h => by cases h⟩
theorem proved : Rows.FnExactInsertIntervalSaid :=
  OpenClaim.holds_of_wide 6 Try.f6 rfl rfl rfl rfl rfl rfl rfl ⟨rfl, rfl, rfl, rfl, rfl⟩ rfl rfl rfl rfl rfl (by kernel_rfl) Try.func6 (by kernel_rfl)
    (of_decide_eq_true (by kernel_rfl)) (by unfold Func.isWrapper; first | (rw [if_pos (by decide +kernel)]; kernel_rfl) | (rw [if_neg (by decide +kernel)]; exact ⟨rfl, rfl⟩))
    (fun os started H enc _ => lifted os started H enc)

end Go.Proofs.Ytonphneolkijcaa.insertInterval
