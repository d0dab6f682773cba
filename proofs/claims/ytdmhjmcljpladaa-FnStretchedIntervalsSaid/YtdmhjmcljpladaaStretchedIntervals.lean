/- PROVED: the law FnStretchedIntervals returns true for every input, and each of its arguments reads afterwards as before. No conditions. -/
import Derived.Test.YtdmhjmcljpladaaRows
import Derived.WalkKit
import Derived.WalkSpells
import Derived.WalkLawsBesides
import Derived.Deep.QuietTactic
import Derived.BigQuiet
import Derived.ProofKit
import Derived.OpenShut
import Derived.ShutString
import Derived.ChangeOld
import Derived.Below
import Derived.Lib.SmallJoins
import Derived.Lib.Hide
import Derived.Maps.AppendAt
import Derived.Deep.AppendLies
import Derived.Deep.RegionHeld3
import Derived.Deep.DeepCutAuto
import Derived.StillTail
import Derived.Deep.RegionLaw
import Derived.Shelf.Small.Bits
import Derived.Shelf.Small.Wraps
import Derived.Shelf.Strconv.Itoa0
import Derived.Shelf.Sort.Plain
import Derived.Shelf.Slices.Reverse
import Derived.Shelf.Slices.Equal
import Derived.Shelf.Slices.CompactI
import Derived.Shelf.Slices.Delete
import Derived.Shelf.Slices.Cells
import Derived.Shelf.Slices.In.SortNone
import Derived.Shelf.Slices.Empties2
import Derived.Sort.OwnSortedInts
import Derived.Lib.SlicesCompact
import Derived.Lib.RowBridge
import Derived.Test.YtdmhjmcljpladaaStretchedIntervalsP2
namespace Go.Proofs.Ytdmhjmcljpladaa.stretchedIntervals
open Go Go.RowKit
set_option linter.unusedVariables false
set_option linter.unusedSimpArgs false
set_option maxHeartbeats 400000
open Go.Shelf
theorem putL_at {l : List Int} {x : Int} (h : ¬(putK l x < l.length ∧ nth l (putK l x) = x)) : putL l x = l.take (putK l x) ++ [x] ++ l.drop (putK l x) := by
  rw [putL, if_neg h]
set_option maxRecDepth 100000 in
theorem l1Put_any (a : Option Addr) (l : List Int) (cap : Nat) (x : Int) (B : Nat) (w : World) (ho : OwnI w B (.slice a l.length cap) l) (hl : l.length ≤ 1048576) (hB : B ≤ w.heap.size) :
    Calls Try.prog 158 #[.slice a l.length cap, .int .i64 x] w fun e w' => ∃ a' cap', e = .returned (.slice a' (putL l x).length cap') ∧ OwnI w' B (.slice a' (putL l x).length cap') (putL l x) ∧ Below w.heap.size w w' := by
  obtain ⟨i0, hi, hz0, hz1, hz2⟩ := info_parts infoInt
  have hcap := ho.capLe
  have hx := ho.rd
  have hkl := putK_le l x
  have hK1 := fun j (h : j < putK l x) => putK_lt l x j h
  have hK2 := putK_ge l x
  have hP1 : (putK l x < l.length ∧ nth l (putK l x) = x) → putL l x = l := fun he => by rw [putL, if_pos he]
  have hP2 := putL_at (l := l) (x := x)
  generalize putK l x = K at *
  generalize putL l x = L at *
  have HK1 := Lib.hid hK1
  have HK2 := Lib.hid hK2
  have HP1 := Lib.hid hP1
  have HP2 := Lib.hid hP2
  have hb0 : Below w.heap.size w w := Below.refl _ _
  clear hK1 hK2 hP1 hP2
  go_enter Try.func158, Try.ntmps158
  go_wp2_with fail
  go_loop [5] (fun i => ∃ k : Nat, k ≤ K ∧ i = .int .i64 k) (fun i => K - (intOf i).toNat)
  case atStart => exact ⟨0, Nat.zero_le _, rfl⟩
  case round =>
    obtain ⟨k, hk, rfl⟩ := hrel
    by_cases hlt : k < K
    · have hkl2 : k < l.length := by omega
      have hkl3 : (k : Int) < (l.length : Int) := by omega
      obtain ⟨b, off, rfl, hbl, hc⟩ := hx.cell k hkl2
      have h1 := HK1.out k hlt
      go_wp2_with fail
      go_round
      case rel => exact ⟨k + 1, by omega, by go_num⟩
      case measure => simp [intOf]; omega
    · obtain rfl : k = K := by omega
      clear hlt hk
      by_cases he : k < l.length ∧ nth l k = x
      · have hpl := he.1
        have hge : ¬ nth l k < x := by rw [he.2]; omega
        have hq : (nth l k == x) = true := by simp [he.2]
        have HP := Lib.hid (HP1.out he)
        obtain ⟨b, off, rfl, hbl, hc⟩ := hx.cell _ hpl
        clear he
        go_wp2_with fail
        refine bodyPost_ret (v := .slice (some ⟨b, off, none⟩) l.length cap) (by simp [results, Try.results158, go_sem]) rfl ?_
        exact ⟨some ⟨b, off, none⟩, cap, by rw [HP.out], by rw [HP.out]; exact ho, hb0⟩
      · have HP := Lib.hid (HP2.out he)
        rcases ho.2 with ⟨e0, h0⟩ | ⟨g, cap', cur, e0, hbg, hgg, hn, hm, hs, ht⟩
        · simp only [Value.slice.injEq] at e0
          obtain ⟨rfl, -, rfl⟩ := e0
          obtain rfl : l = [] := List.length_eq_zero_iff.1 h0
          have hown0 : (w.alloc (.cells #[] 3)).ownsRow w.heap.size 3 1 (.slice (some ⟨w.heap.size, 0, none⟩) 0 0) 0 [] := World.ownsRow_lit w #[] 0 (Nat.le_refl _) (by simp [maxLen]) (by simp)
          obtain rfl : k = 0 := by simpa using hkl
          have HLL := Lib.hid (show L = [x] by rw [HP.out]; rfl)
          have Hown0 := Lib.hid hown0
          clear he hown0
          go_wp2_with (first | (at_builtin; refine wpList_append_own _ rfl _ _ 26 rfl w.heap.size 3 i0 (.int .i64 0) 1 8 Try.underlying26 hi hz0 hz1 hz2 rfl (by decide) (.slice (some ⟨w.heap.size, 0, none⟩) 0 0) 0 [] rfl (Hown0.out.alloc _) ⟨w.heap.size + 1, 0, none⟩ 1 1 [.int .i64 x] rfl rfl (by have h := cell_one_new (w.alloc (.cells #[] 3)) (.int .i64 x) 3; simp only [World.size_alloc] at h; exact h) (by intro u hu; simp at hu; subst hu; rfl) (by unfold maxLen; omega) (by omega) (by simp; omega) ?_) | (at_builtin; refine wpList_append_none rfl _ _ 26 rfl w.heap.size 3 i0 1 Try.underlying26 hi _ 0 _ [] rfl Hown0.out rfl ?_))
          intro v2 w2 ho2 hg2 _
          have hb2 : Below w.heap.size w w2 := Below.grown (w := (w.alloc (.cells #[] 3)).alloc (.cells #[.int .i64 x] 3)) (by repeat (first | exact Below.refl _ _ | assumption | refine Below.alloc ?_ (by first | exact Nat.le_refl _ | (simp only [World.size_alloc, World.size_setCell, World.size_drew]; omega) | omega) _ | refine Below.setCell ?_ (by first | exact Nat.le_refl _ | (simp only [World.size_alloc, World.size_setCell, World.size_drew]; omega) | omega) _ | refine Below.drew ?_)) hg2 (by simp; omega) (fun b e => by simp [Value.ownBlock] at e; omega)
          have ho2' : OwnI w2 w.heap.size v2 [x] := ho2
          obtain ⟨a2, cap2, rfl⟩ := ho2'.form
          have Ho2 := Lib.hid (ho2'.mono hB)
          have Ho3 := Lib.hid ho2
          clear ho2 hg2 ho2'
          go_wp2_with (at_builtin; refine wpList_append_none rfl _ _ 26 rfl w.heap.size 3 i0 1 Try.underlying26 hi _ _ _ _ rfl Ho3.out rfl ?_)
          go_wp2_with fail
          refine bodyPost_ret (v := .slice a2 1 cap2) (by simp [results, Try.results158, go_sem]) rfl ?_
          exact ⟨a2, cap2, by rw [HLL.out]; rfl, by rw [HLL.out]; exact Ho2.out, hb2⟩
        · simp only [Value.slice.injEq] at e0
          obtain ⟨rfl, -, rfl⟩ := e0
          have hgl : g < w.heap.size := (Array.getElem?_eq_some_iff.1 hgg).1
          clear hgg hs ht hn hm
          have hown0 : (w.alloc (.cells #[] 3)).ownsRow w.heap.size 3 1 (.slice (some ⟨w.heap.size, 0, none⟩) 0 0) 0 [] := World.ownsRow_lit w #[] 0 (Nat.le_refl _) (by simp [maxLen]) (by simp)
          by_cases hpl : k < l.length
          · have hge := HK2.out hpl
            have hge2 : ¬ nth l k < x := by omega
            have hq : (nth l k == x) = false := by
              rw [beq_eq_false_iff_ne]; exact fun e => he ⟨hpl, e⟩
            obtain ⟨b, off, e1, hbl, hc⟩ := hx.cell _ hpl
            simp only [Option.some.injEq, Addr.mk.injEq, and_true] at e1
            obtain ⟨rfl, rfl⟩ := e1
            rw [Nat.zero_add] at hc
            have hkc : k < cap := by omega
            have hkc2 : k ≤ cap := by omega
            have Hown0 := Lib.hid hown0
            obtain ⟨T, hT⟩ : ∃ T, T = l.take k := ⟨_, rfl⟩
            obtain ⟨D, hD⟩ : ∃ D, D = l.drop k := ⟨_, rfl⟩
            have HTl := Lib.hid (show T.length = k by rw [hT, List.length_take]; omega)
            have HDl := Lib.hid (show D.length = l.length - k by rw [hD, List.length_drop])
            have HTr : Rd w (some ⟨g, 0, none⟩) T := hT ▸ hx.take k
            have HDr : Rd w (some ⟨g, k, none⟩) D := by have h := hx.drop k; rw [Addr.add_lit, Nat.zero_add] at h; rw [hD]; exact h
            have HLL := Lib.hid (show L = T ++ [x] ++ D by rw [HP.out, hT, hD])
            clear hT hD
            clear he hown0
            go_wp2_with (at_builtin; refine wpList_append_own _ rfl _ _ 26 rfl w.heap.size 3 i0 (.int .i64 0) 1 8 Try.underlying26 hi hz0 hz1 hz2 rfl (by decide) _ 0 [] rfl Hown0.out ⟨g, 0, none⟩ k cap (T.map (Value.int .i64)) rfl (by rw [List.length_map, Nat.mul_one]; exact HTl.out) (rd_news (HTr.below (by repeat (first | exact Below.refl _ _ | assumption | refine Below.alloc ?_ (by first | exact Nat.le_refl _ | (simp only [World.size_alloc, World.size_setCell, World.size_drew]; omega) | omega) _ | refine Below.setCell ?_ (by first | exact Nat.le_refl _ | (simp only [World.size_alloc, World.size_setCell, World.size_drew]; omega) | omega) _ | refine Below.drew ?_)))) (ints_one _) (by unfold maxLen; omega) (by omega) (by simp) ?_)
            intro v1 w1 ho1 hg1 _
            try simp only [Nat.zero_add, List.nil_append] at ho1
            have hb1 : Below w.heap.size w w1 := Below.grown (w := w.alloc (.cells #[] 3)) (by repeat (first | exact Below.refl _ _ | assumption | refine Below.alloc ?_ (by first | exact Nat.le_refl _ | (simp only [World.size_alloc, World.size_setCell, World.size_drew]; omega) | omega) _ | refine Below.setCell ?_ (by first | exact Nat.le_refl _ | (simp only [World.size_alloc, World.size_setCell, World.size_drew]; omega) | omega) _ | refine Below.drew ?_)) hg1 (by simp) (fun b e => by simp [Value.ownBlock] at e; omega)
            clear hg1
            obtain ⟨a1, cap1, rfl⟩ : ∃ a1 cap1, v1 = .slice a1 k cap1 := by
              rcases ho1.2 with ⟨rfl, h0⟩ | ⟨g1, cap1, cur1, rfl, _⟩
              · exact ⟨none, 0, by rw [h0]⟩
              · exact ⟨_, _, rfl⟩
            have Ho1 := Lib.hid ho1
            have zw1 : w.heap.size ≤ w1.heap.size := hb1.size
            clear ho1
            go_wp2_with (at_builtin; refine wpList_append_own _ rfl _ _ 26 rfl w.heap.size 3 i0 (.int .i64 0) 1 8 Try.underlying26 hi hz0 hz1 hz2 rfl (by decide) (.slice a1 k cap1) k (T.map (Value.int .i64)) rfl (Ho1.out.alloc _) ⟨w1.heap.size, 0, none⟩ 1 1 [.int .i64 x] rfl rfl (cell_one_new _ _ _) (by intro u hu; simp at hu; subst hu; rfl) (by unfold maxLen; omega) (by omega) (by simp; omega) ?_)
            intro v2 w2 ho2 hg2 _
            have hb2 : Below w.heap.size w w2 := hb1.trans (below_of_grown (grown_alloc_set hg2) (fun b e => (Ho1.out.lt b e).1) hb1.size)
            clear hg2
            obtain ⟨a2, cap2, rfl⟩ : ∃ a2 cap2, v2 = .slice a2 (k+1) cap2 := by
              rcases ho2.2 with ⟨rfl, h0⟩ | ⟨g1, cap1, cur1, rfl, _⟩
              · exact ⟨none, 0, by rw [h0]⟩
              · exact ⟨_, _, rfl⟩
            have Ho2 := Lib.hid ho2
            clear ho2 Ho1
            go_wp2_with (at_builtin; refine wpList_append_own _ rfl _ _ 26 rfl w.heap.size 3 i0 (.int .i64 0) 1 8 Try.underlying26 hi hz0 hz1 hz2 rfl (by decide) (.slice a2 (k + 1) cap2) (k + 1) (T.map (Value.int .i64) ++ [.int .i64 x]) rfl Ho2.out ⟨g, k, none⟩ (l.length - k) (cap - k) (D.map (Value.int .i64)) rfl (by rw [List.length_map, Nat.mul_one]; exact HDl.out) (rd_news (HDr.below hb2)) (ints_one _) (by unfold maxLen; omega) (by omega) (by have := hb2.size; omega) ?_)
            intro v3 w3 ho3 hg3 _
            have hb3 : Below w.heap.size w w3 := hb2.trans (below_of_grown hg3 (fun b e => (Ho2.out.lt b e).1) hb2.size)
            have hll : L.length = k + 1 + (l.length - k) := by
              have h := congrArg List.length HLL.out
              rw [List.length_append, List.length_append, HTl.out, HDl.out, List.length_singleton] at h
              exact h
            have ho4 : OwnI w3 w.heap.size v3 L := by
              unfold OwnI
              rw [hll, HLL.out, List.map_append, List.map_append, List.append_assoc]
              exact ho3
            obtain ⟨a3, cap3, rfl⟩ := ho4.form
            have Ho4 := Lib.hid (ho4.mono hB)
            clear ho3 hg3 Ho2 ho4 hll
            go_wp2_with fail
            refine bodyPost_ret (v := .slice a3 L.length cap3) (by simp [results, Try.results158, go_sem]) rfl ?_
            exact ⟨a3, cap3, rfl, Ho4.out, hb3⟩
          · obtain rfl : k = l.length := by omega
            have Hown0 := Lib.hid hown0
            have HLL := Lib.hid (show L = l ++ [x] ++ [] by rw [HP.out]; simp)
            clear he hown0 hpl
            by_cases hcl : cap = l.length
            · obtain rfl : cap = l.length := hcl
              go_wp2_with (at_builtin; refine wpList_append_own _ rfl _ _ 26 rfl w.heap.size 3 i0 (.int .i64 0) 1 8 Try.underlying26 hi hz0 hz1 hz2 rfl (by decide) _ 0 [] rfl Hown0.out ⟨g, 0, none⟩ l.length l.length (l.map (Value.int .i64)) rfl (by rw [List.length_map, Nat.mul_one]) (rd_news (hx.below (by repeat (first | exact Below.refl _ _ | assumption | refine Below.alloc ?_ (by first | exact Nat.le_refl _ | (simp only [World.size_alloc, World.size_setCell, World.size_drew]; omega) | omega) _ | refine Below.setCell ?_ (by first | exact Nat.le_refl _ | (simp only [World.size_alloc, World.size_setCell, World.size_drew]; omega) | omega) _ | refine Below.drew ?_)))) (ints_one _) (by unfold maxLen; omega) (by omega) (by simp) ?_)
              intro v1 w1 ho1 hg1 _
              try simp only [Nat.zero_add, List.nil_append] at ho1
              have hb1 : Below w.heap.size w w1 := Below.grown (w := w.alloc (.cells #[] 3)) (by repeat (first | exact Below.refl _ _ | assumption | refine Below.alloc ?_ (by first | exact Nat.le_refl _ | (simp only [World.size_alloc, World.size_setCell, World.size_drew]; omega) | omega) _ | refine Below.setCell ?_ (by first | exact Nat.le_refl _ | (simp only [World.size_alloc, World.size_setCell, World.size_drew]; omega) | omega) _ | refine Below.drew ?_)) hg1 (by simp) (fun b e => by simp [Value.ownBlock] at e; omega)
              clear hg1
              obtain ⟨a1, cap1, rfl⟩ : ∃ a1 cap1, v1 = .slice a1 l.length cap1 := by
                rcases ho1.2 with ⟨rfl, h0⟩ | ⟨g1, cap1, cur1, rfl, _⟩
                · exact ⟨none, 0, by rw [h0]⟩
                · exact ⟨_, _, rfl⟩
              have Ho1 := Lib.hid ho1
              have zw1 : w.heap.size ≤ w1.heap.size := hb1.size
              clear ho1
              go_wp2_with (at_builtin; refine wpList_append_own _ rfl _ _ 26 rfl w.heap.size 3 i0 (.int .i64 0) 1 8 Try.underlying26 hi hz0 hz1 hz2 rfl (by decide) (.slice a1 l.length cap1) l.length (l.map (Value.int .i64)) rfl (Ho1.out.alloc _) ⟨w1.heap.size, 0, none⟩ 1 1 [.int .i64 x] rfl rfl (cell_one_new _ _ _) (by intro u hu; simp at hu; subst hu; rfl) (by unfold maxLen; omega) (by omega) (by simp; omega) ?_)
              intro v2 w2 ho2 hg2 _
              have hb2 : Below w.heap.size w w2 := hb1.trans (below_of_grown (grown_alloc_set hg2) (fun b e => (Ho1.out.lt b e).1) hb1.size)
              clear hg2
              obtain ⟨a2, cap2, rfl⟩ : ∃ a2 cap2, v2 = .slice a2 (l.length+1) cap2 := by
                rcases ho2.2 with ⟨rfl, h0⟩ | ⟨g1, cap1, cur1, rfl, _⟩
                · exact ⟨none, 0, by rw [h0]⟩
                · exact ⟨_, _, rfl⟩
              have Ho2 := Lib.hid ho2
              clear ho2 Ho1
              go_wp2_with (at_builtin; refine wpList_append_own _ rfl _ _ 26 rfl w.heap.size 3 i0 (.int .i64 0) 1 8 Try.underlying26 hi hz0 hz1 hz2 rfl (by decide) (.slice a2 (l.length + 1) cap2) (l.length + 1) (l.map (Value.int .i64) ++ [.int .i64 x]) rfl Ho2.out ⟨g, 0, none⟩ 0 0 [] rfl rfl (fun j u hj => by simp at hj) (fun u hu => by simp at hu) (by unfold maxLen; omega) (by omega) (by have := hb2.size; omega) ?_)
              intro v3 w3 ho3 hg3 _
              have hb3 : Below w.heap.size w w3 := hb2.trans (below_of_grown hg3 (fun b e => (Ho2.out.lt b e).1) hb2.size)
              have hll : L.length = l.length + 1 + 0 := by
                have h := congrArg List.length HLL.out
                rw [List.length_append, List.length_append, List.length_nil, List.length_singleton] at h
                exact h
              have ho4 : OwnI w3 w.heap.size v3 L := by
                unfold OwnI
                rw [hll, HLL.out, List.map_append, List.map_append, List.append_assoc]
                simpa using ho3
              obtain ⟨a3, cap3, rfl⟩ := ho4.form
              have Ho4 := Lib.hid (ho4.mono hB)
              clear ho3 hg3 Ho2 ho4 hll
              go_wp2_with fail
              refine bodyPost_ret (v := .slice a3 L.length cap3) (by simp [results, Try.results158, go_sem]) rfl ?_
              exact ⟨a3, cap3, rfl, Ho4.out, hb3⟩
            · have hcl2 : ¬ l.length = cap := fun e => hcl e.symm
              have hcl3 : l.length < cap := by omega
              go_wp2_with (at_builtin; refine wpList_append_own _ rfl _ _ 26 rfl w.heap.size 3 i0 (.int .i64 0) 1 8 Try.underlying26 hi hz0 hz1 hz2 rfl (by decide) _ 0 [] rfl Hown0.out ⟨g, 0, none⟩ l.length cap (l.map (Value.int .i64)) rfl (by rw [List.length_map, Nat.mul_one]) (rd_news (hx.below (by repeat (first | exact Below.refl _ _ | assumption | refine Below.alloc ?_ (by first | exact Nat.le_refl _ | (simp only [World.size_alloc, World.size_setCell, World.size_drew]; omega) | omega) _ | refine Below.setCell ?_ (by first | exact Nat.le_refl _ | (simp only [World.size_alloc, World.size_setCell, World.size_drew]; omega) | omega) _ | refine Below.drew ?_)))) (ints_one _) (by unfold maxLen; omega) (by omega) (by simp) ?_)
              intro v1 w1 ho1 hg1 _
              try simp only [Nat.zero_add, List.nil_append] at ho1
              have hb1 : Below w.heap.size w w1 := Below.grown (w := w.alloc (.cells #[] 3)) (by repeat (first | exact Below.refl _ _ | assumption | refine Below.alloc ?_ (by first | exact Nat.le_refl _ | (simp only [World.size_alloc, World.size_setCell, World.size_drew]; omega) | omega) _ | refine Below.setCell ?_ (by first | exact Nat.le_refl _ | (simp only [World.size_alloc, World.size_setCell, World.size_drew]; omega) | omega) _ | refine Below.drew ?_)) hg1 (by simp) (fun b e => by simp [Value.ownBlock] at e; omega)
              clear hg1
              obtain ⟨a1, cap1, rfl⟩ : ∃ a1 cap1, v1 = .slice a1 l.length cap1 := by
                rcases ho1.2 with ⟨rfl, h0⟩ | ⟨g1, cap1, cur1, rfl, _⟩
                · exact ⟨none, 0, by rw [h0]⟩
                · exact ⟨_, _, rfl⟩
              have Ho1 := Lib.hid ho1
              have zw1 : w.heap.size ≤ w1.heap.size := hb1.size
              clear ho1
              go_wp2_with (at_builtin; refine wpList_append_own _ rfl _ _ 26 rfl w.heap.size 3 i0 (.int .i64 0) 1 8 Try.underlying26 hi hz0 hz1 hz2 rfl (by decide) (.slice a1 l.length cap1) l.length (l.map (Value.int .i64)) rfl (Ho1.out.alloc _) ⟨w1.heap.size, 0, none⟩ 1 1 [.int .i64 x] rfl rfl (cell_one_new _ _ _) (by intro u hu; simp at hu; subst hu; rfl) (by unfold maxLen; omega) (by omega) (by simp; omega) ?_)
              intro v2 w2 ho2 hg2 _
              have hb2 : Below w.heap.size w w2 := hb1.trans (below_of_grown (grown_alloc_set hg2) (fun b e => (Ho1.out.lt b e).1) hb1.size)
              clear hg2
              obtain ⟨a2, cap2, rfl⟩ : ∃ a2 cap2, v2 = .slice a2 (l.length+1) cap2 := by
                rcases ho2.2 with ⟨rfl, h0⟩ | ⟨g1, cap1, cur1, rfl, _⟩
                · exact ⟨none, 0, by rw [h0]⟩
                · exact ⟨_, _, rfl⟩
              have Ho2 := Lib.hid ho2
              clear ho2 Ho1
              go_wp2_with (at_builtin; refine wpList_append_own _ rfl _ _ 26 rfl w.heap.size 3 i0 (.int .i64 0) 1 8 Try.underlying26 hi hz0 hz1 hz2 rfl (by decide) (.slice a2 (l.length + 1) cap2) (l.length + 1) (l.map (Value.int .i64) ++ [.int .i64 x]) rfl Ho2.out ⟨g, l.length, none⟩ 0 (cap - l.length) [] rfl rfl (fun j u hj => by simp at hj) (fun u hu => by simp at hu) (by unfold maxLen; omega) (by omega) (by have := hb2.size; omega) ?_)
              intro v3 w3 ho3 hg3 _
              have hb3 : Below w.heap.size w w3 := hb2.trans (below_of_grown hg3 (fun b e => (Ho2.out.lt b e).1) hb2.size)
              have hll : L.length = l.length + 1 + 0 := by
                have h := congrArg List.length HLL.out
                rw [List.length_append, List.length_append, List.length_nil, List.length_singleton] at h
                exact h
              have ho4 : OwnI w3 w.heap.size v3 L := by
                unfold OwnI
                rw [hll, HLL.out, List.map_append, List.map_append, List.append_assoc]
                simpa using ho3
              obtain ⟨a3, cap3, rfl⟩ := ho4.form
              have Ho4 := Lib.hid (ho4.mono hB)
              clear ho3 hg3 Ho2 ho4 hll
              go_wp2_with fail
              refine bodyPost_ret (v := .slice a3 L.length cap3) (by simp [results, Try.results158, go_sem]) rfl ?_
              exact ⟨a3, cap3, rfl, Ho4.out, hb3⟩

theorem orBelow_any (n : Int) (a : Option Addr) (xs : List Int) (cap : Nat) (i : Int) (w : World) (hx : Rd w a xs) (hr : RelP n xs) (hi : 0 ≤ i) :
    Calls Try.prog 159 #[.agg #[.int .i64 n, .slice a xs.length cap], .int .i64 i] w fun e w' => e = .returned (.int .i64 (belowTo xs i xs.length)) ∧ Below w.heap.size w w' := by
  have hx1 := hx.alloc (.cells #[.int .i64 n, .slice a xs.length cap] 28)
  have hn : xs.length ≤ 10 := by have := hr.len; have := hr.n1; omega
  go_enter Try.func159, Try.ntmps159
  go_wp2_with fail
  go_loop [5, 11] (fun s i' => ∃ k : Nat, k ≤ xs.length ∧ i' = .int .i64 k ∧ s = .int .i64 (belowTo xs i k)) (fun _ i => xs.length - (intOf i).toNat)
  case atStart => exact ⟨0, Nat.zero_le _, rfl, rfl⟩
  case round =>
    obtain ⟨k, hk, rfl, rfl⟩ := hrel
    by_cases hlt : k < xs.length
    · obtain ⟨b, off, rfl, hbl, hc⟩ := hx1.cell k hlt
      obtain ⟨b', off', e', hbl', hc'⟩ := hx.cell k hlt
      simp only [Option.some.injEq, Addr.mk.injEq, and_true] at e'
      obtain ⟨rfl, rfl⟩ := e'
      have hpk := hr.pos k hlt
      have hsk : nth xs k ≤ 9223372036854775807 := by have := hr.small k hlt; omega
      have hbs := belowTo_small xs i (k := k) (by omega)
      have hor := Lib.hid (or_bit (b := belowTo xs i k) (k := k) (by omega) (by omega))
      clear hbs
      cases hin : hasB (nth xs k) i
      · go_wp2_with (go_at_call 118; refine (orHas_any _ _ _ hpk hsk hi).mono ?_; rintro e w' ⟨rfl, rfl⟩)
        go_round
        case rel => exact ⟨k + 1, by omega, by go_num, by simp [belowTo, hin]⟩
        case measure => simp [intOf]; omega
      · go_wp2_with (go_at_call 118; refine (orHas_any _ _ _ hpk hsk hi).mono ?_; rintro e w' ⟨rfl, rfl⟩)
        go_round
        case rel => exact ⟨k + 1, by omega, by go_num, val_int (by rw [hor.out]; simp [belowTo, hin])⟩
        case measure => simp [intOf]; omega
    · obtain rfl : k = xs.length := by omega
      go_wp2_with fail
      go_ret
      exact ⟨rfl, (by repeat (first | exact Below.refl _ _ | assumption | refine Below.alloc ?_ (by first | exact Nat.le_refl _ | (simp only [World.size_alloc, World.size_setCell, World.size_drew]; omega) | omega) _ | refine Below.setCell ?_ (by first | exact Nat.le_refl _ | (simp only [World.size_alloc, World.size_setCell, World.size_drew]; omega) | omega) _ | refine Below.drew ?_))⟩

theorem setsTo_L (xs : List Int) (k : Nat) : putL (setsTo xs k) ((belowTo xs (k : Int) xs.length : Nat) : Int) = setsTo xs (k+1) := rfl
theorem lessB_ne {s own : Int} (h : (s != own) = false) : lessB s own = false := by simp [lessB, h]
theorem lessB_val {s own : Int} (h : (s != own) = true) : lessB s own = (sub s.toNat own.toNat == 0) := by simp [lessB, h]
theorem lessB_sub {s : Int} {o : Nat} (h0 : 0 ≤ s) (h1 : s < 1024) (h2 : o < 1024) (h : (s != (o : Int)) = true) : (bits .andNot .i64 s (o : Int) == 0) = lessB s (o : Int) := by
  rw [lessB_val h, sub_i h0 (by omega) (by omega) (by omega), Int.toNat_natCast, Bool.eq_iff_iff, beq_iff_eq, beq_iff_eq]
  omega
theorem ivLevels_any (n : Int) (a : Option Addr) (xs : List Int) (cap : Nat) (w : World) (hx : Rd w a xs) (hr : RelP n xs) :
    Calls Try.prog 117 #[.agg #[.int .i64 n, .slice a xs.length cap]] w fun e w' => ∃ a' cap', e = .returned (.slice a' xs.length cap') ∧ OwnI w' w.heap.size (.slice a' xs.length cap') (levs xs xs.length) ∧ Below w.heap.size w w' := by
  obtain ⟨i0, hi, hz0, hz1, hz2⟩ := info_parts infoInt
  obtain rfl : n = (xs.length : Int) := hr.len.symm
  have hn : xs.length ≤ 10 := by have := hr.n1; omega
  go_enter Try.func117, Try.ntmps117
  go_wp2_with fail
  go_loopw [3, 13] (fun v i wr => ∃ (k : Nat) (aS : Option Addr) (cS : Nat), k ≤ xs.length ∧ i = .int .i64 k ∧ v = .slice aS (setsTo xs k).length cS ∧ OwnI wr (w.heap.size + 1) (.slice aS (setsTo xs k).length cS) (setsTo xs k) ∧ Below w.heap.size w wr ∧ Box2 wr w.heap.size (.int .i64 (xs.length : Int)) (.slice a xs.length cap)) (fun _ i _ => xs.length - (intOf i).toNat)
  case atStart => exact ⟨0, none, 0, Nat.zero_le _, rfl, rfl, OwnI.nil _ _, (by repeat (first | exact Below.refl _ _ | assumption | refine Below.alloc ?_ (by first | exact Nat.le_refl _ | (simp only [World.size_alloc, World.size_setCell, World.size_drew]; omega) | omega) _ | refine Below.setCell ?_ (by first | exact Nat.le_refl _ | (simp only [World.size_alloc, World.size_setCell, World.size_drew]; omega) | omega) _ | refine Below.drew ?_)), Box2.new w _ _ _⟩
  case round =>
    obtain ⟨k, aS, cS, hk, rfl, rfl, hown, hb, hB⟩ := hrel
    have ⟨zr, cr, dr⟩ := hB
    have hsl := setsTo_len xs k
    by_cases hlt : k < xs.length
    · have k0 : (0 : Int) ≤ (k : Int) := by omega
      have hLL := Lib.hid (setsTo_L xs k)
      go_wp2_with fail
      refine (orBelow_any _ _ _ _ _ _ (hx.below hb) hr k0).mono ?_
      rintro e w2 ⟨rfl, hb2⟩
      have o2 := hown.below hb2 (Nat.le_refl _)
      have B2 := hB.below hb2
      have bw2 := hb.trans (hb2.mono hb.size)
      have hz2' : w.heap.size + 1 ≤ w2.heap.size := by have := B2.1; omega
      clear hb2 hown cr dr
      go_wp2_with fail
      refine (l1Put_any _ _ _ _ _ _ o2 (by omega) hz2').mono ?_
      rw [hLL.out]
      rintro e w3 ⟨a3, c3, rfl, o3, hb3⟩
      have B3 := B2.below hb3
      have bw3 := bw2.trans (hb3.mono bw2.size)
      clear hb3
      go_wp2_with fail
      go_roundw
      case rel => exact ⟨k + 1, a3, c3, by omega, by go_num, rfl, o3, bw3, B3⟩
      case measure => simp [intOf]; omega
    · obtain rfl : k = xs.length := by omega
      obtain ⟨ss, hss⟩ : ∃ ss, ss = setsTo xs xs.length := ⟨_, rfl⟩
      have hbd : ∀ m, m < ss.length → 0 ≤ nth ss m ∧ nth ss m < 1024 := fun m hm => by rw [hss] at hm ⊢; exact setsTo_bd hn hm
      have hlv : ∀ i, lv xs i = ((lvTo ss ((belowTo xs (i : Int) xs.length : Nat) : Int) ss.length : Nat) : Int) := fun i => by rw [hss]; rfl
      rw [← hss] at hown hsl
      rw [← hss]
      have HBD := Lib.hid hbd
      have HLV := Lib.hid hlv
      clear hss hbd hlv
      have hUs := hown.lt
      have zr2 : w.heap.size + 1 ≤ wr.heap.size := by omega
      have hrs := hown.rd
      obtain ⟨wo, rfl⟩ : ∃ wo : World, wo = wr := ⟨_, rfl⟩
      go_wp2_with fail
      clear cr dr
      go_loopw [5, 25] (fun v i wr => ∃ k : Nat, k ≤ xs.length ∧ i = .int .i64 k ∧ OwnI wr wo.heap.size v (levs xs k) ∧ Below wo.heap.size wo wr) (fun _ i _ => xs.length - (intOf i).toNat)
      case atStart => exact ⟨0, Nat.zero_le _, rfl, OwnI.nil _ _, Below.refl _ _⟩
      case round =>
        obtain ⟨k, hk, rfl, hv, hbv⟩ := hrel
        obtain ⟨av, cv, rfl⟩ := hv.form
        rw [levs_len] at hv ⊢
        obtain ⟨wp, rfl⟩ : ∃ wp : World, wp = wr := ⟨_, rfl⟩
        by_cases hlt : k < xs.length
        · have k0 : (0 : Int) ≤ (k : Int) := by omega
          have hbt := belowTo_small xs (k : Int) (k := xs.length) hn
          go_wp2_with fail
          go_loopw [7, 30] (fun c i wr => ∃ m : Nat, m ≤ ss.length ∧ i = .int .i64 m ∧ c = .int .i64 (lvTo ss ((belowTo xs (k : Int) xs.length : Nat) : Int) m) ∧ Below wp.heap.size wp wr) (fun _ i _ => ss.length - (intOf i).toNat)
          case atStart => exact ⟨0, Nat.zero_le _, rfl, rfl, Below.refl _ _⟩
          case round =>
            obtain ⟨m, hm, rfl, rfl, hbm⟩ := hrel
            have hbt2 := hbv.trans (hbm.mono hbv.size)
            have bwm := hb.trans (hbt2.mono hb.size)
            by_cases hlt2 : m < ss.length
            · have hBm := hB.below hbt2
              have ⟨z1, c1, d1⟩ := hBm
              obtain ⟨b, off, rfl, hbl, hc⟩ := (hrs.below hbt2).cell m hlt2
              have ⟨s0, s1⟩ := HBD.out m hlt2
              have hle := lvTo_le ss ((belowTo xs (k : Int) xs.length : Nat) : Int) m
              cases hne : (nth ss m != ((belowTo xs (k : Int) xs.length : Nat) : Int))
              · have HN := Lib.hid (lessB_ne hne)
                go_wp2_with fail
                refine (orBelow_any _ _ _ _ _ _ (hx.below bwm) hr k0).mono ?_
                rintro e w4 ⟨rfl, hb4⟩
                have bm4 := hbm.trans (hb4.mono hbm.size)
                clear c1 d1 hc
                go_wp2_with fail
                go_roundw
                case rel => exact ⟨m + 1, by omega, by go_num, by simp only [lvTo, HN.out]; rfl, bm4⟩
                case measure => simp [intOf]; omega
              · have hsb := lessB_sub s0 s1 hbt hne
                cases hlb : lessB (nth ss m) ((belowTo xs (k : Int) xs.length : Nat) : Int)
                all_goals
                  rw [hlb] at hsb
                  have HN := Lib.hid hlb
                  clear hlb
                  go_wp2_with fail
                  refine (orBelow_any _ _ _ _ _ _ (hx.below bwm) hr k0).mono ?_
                  rintro e w4 ⟨rfl, hb4⟩
                  have bm4 := hbm.trans (hb4.mono hbm.size)
                  have B4 := hBm.below hb4
                  have bw4 := bwm.trans (hb4.mono bwm.size)
                  have ⟨z4, c4, d4⟩ := B4
                  clear c1 d1 hc hb4
                  go_wp2_with fail
                  refine (orBelow_any _ _ _ _ _ _ (hx.below bw4) hr k0).mono ?_
                  rintro e w5 ⟨rfl, hb5⟩
                  have bm5 := bm4.trans (hb5.mono bm4.size)
                  clear c4 d4
                  go_wp2_with fail
                  go_roundw
                  case rel => exact ⟨m + 1, by omega, by go_num, by simp only [lvTo, HN.out]; first | rfl | go_num, bm5⟩
                  case measure => simp [intOf]; omega
            · obtain rfl : m = ss.length := by omega
              have hv2 := hv.below hbm (Nat.le_refl _)
              have hbt3 := hbt2.size
              have HLK := Lib.hid (HLV.out k)
              rw [← HLK.out]
              go_wp2_with (at_builtin; refine wpList_append_own _ rfl _ _ 26 rfl wo.heap.size 3 i0 (.int .i64 0) 1 8 Try.underlying26 hi hz0 hz1 hz2 rfl (by decide) (.slice av k cv) k ((levs xs k).map (Value.int .i64)) rfl (by have h := hv2.alloc (.cells #[.int .i64 (lv xs k)] 3); unfold OwnI at h; rw [levs_len] at h; exact h) ⟨wr.heap.size, 0, none⟩ 1 1 [.int .i64 (lv xs k)] rfl rfl (cell_one_new _ _ _) (by intro u hu; simp at hu; subst hu; rfl) (by unfold maxLen; omega) (by omega) (by simp; omega) ?_)
              intro v' w6 hown6 hgrow _
              have hg2 := grown_alloc_set hgrow
              have o6 : OwnI w6 wo.heap.size v' (levs xs (k + 1)) := by
                unfold OwnI
                rw [levs_len, levs, fmap_succ, List.map_append]
                exact hown6
              have hU := hv2.lt
              have bw6 := hbt2.trans (below_of_grown hg2 (fun c e => by have := hU c e; omega) hbt2.size)
              clear hown6 hgrow hU
              go_wp2_with fail
              go_roundw
              case rel => exact ⟨k + 1, by omega, by go_num, o6, bw6⟩
              case measure => simp [intOf]; omega
        · obtain rfl : k = xs.length := by omega
          go_wp2_with fail
          go_ret
          exact ⟨av, cv, rfl, hv.mono hb.size, hb.trans (hbv.mono hb.size)⟩

theorem iLevels_any (n : Int) (a : Option Addr) (xs : List Int) (cap : Nat) (w : World) (hn : -9223372036854775808 ≤ n ∧ n ≤ 9223372036854775807) (hx : Rd w a xs) :
    Calls Try.prog 68 #[.agg #[.int .i64 n, .slice a xs.length cap]] w fun e w' => ∃ a' cap', e = .returned (.tuple #[.slice a' (levL n xs).length cap', .bool (isIv n xs)]) ∧ OwnI w' w.heap.size (.slice a' (levL n xs).length cap') (levL n xs) ∧ Below w.heap.size w w' := by
  have hx1 := hx.alloc (.cells #[.int .i64 n, .slice a xs.length cap] 28)
  obtain ⟨i0, hi, hz0, hz1, hz2⟩ := info_parts infoInt
  cases hr : isIv n xs
  · have H1 : Hid (levL n xs = []) := by simp [Hid, levL, hr]
    have HR := Lib.hid hr
    clear hr
    go_enter Try.func68, Try.ntmps68
    go_wp2_with fail
    refine (iIsInterval_any _ _ _ _ _ hn hx1).mono ?_
    rw [HR.out]
    rintro e w1 ⟨rfl, hb1⟩
    have bw1 : Below w.heap.size w w1 := Below.trans (by repeat (first | exact Below.refl _ _ | assumption | refine Below.alloc ?_ (by first | exact Nat.le_refl _ | (simp only [World.size_alloc, World.size_setCell, World.size_drew]; omega) | omega) _ | refine Below.setCell ?_ (by first | exact Nat.le_refl _ | (simp only [World.size_alloc, World.size_setCell, World.size_drew]; omega) | omega) _ | refine Below.drew ?_)) (hb1.mono (by first | (simp only [World.size_alloc, World.size_setCell, World.size_drew]; omega) | omega))
    go_wp2_with fail
    refine bodyPost_ret (v := .tuple #[.slice none 0 0, .bool false]) (by simp [results, Try.results68, go_sem]) rfl ?_
    exact ⟨none, 0, by rw [H1.out]; rfl, by rw [H1.out]; exact OwnI.nil _ _, bw1⟩
  · have ho := isIv_ord hr
    have hp := ord_rel ho
    have H1 : Hid (levL n xs = levs xs xs.length) := by simp [Hid, levL, hr]
    have HR := Lib.hid hr
    have HO := Lib.hid ho
    obtain rfl : n = (xs.length : Int) := hp.len.symm
    have hl10 : xs.length ≤ 10 := by have := hp.n1; omega
    clear hr ho
    go_enter Try.func68, Try.ntmps68
    go_wp2_with fail
    refine (iIsInterval_any _ _ _ _ _ hn hx1).mono ?_
    rw [HR.out, HO.out]
    rintro e w1 ⟨rfl, hb1⟩
    have A1 : Box2 w1 w.heap.size (.int .i64 (xs.length : Int)) (.slice a xs.length cap) := (Box2.new w _ _ _).below hb1
    have bw1 : Below w.heap.size w w1 := Below.trans (by repeat (first | exact Below.refl _ _ | assumption | refine Below.alloc ?_ (by first | exact Nat.le_refl _ | (simp only [World.size_alloc, World.size_setCell, World.size_drew]; omega) | omega) _ | refine Below.setCell ?_ (by first | exact Nat.le_refl _ | (simp only [World.size_alloc, World.size_setCell, World.size_drew]; omega) | omega) _ | refine Below.drew ?_)) (hb1.mono (by first | (simp only [World.size_alloc, World.size_setCell, World.size_drew]; omega) | omega))
    have ⟨zA, cA, dA⟩ := A1
    clear hb1
    go_wp2_with fail
    refine (lowerSets_any _ _ _ _ _ (hx.below bw1) hp).mono ?_
    obtain ⟨ss, hss⟩ : ∃ ss, ss = sets xs := ⟨_, rfl⟩
    have hbd : ∀ m, m < ss.length → 0 ≤ nth ss m ∧ nth ss m < 1024 := fun m hm => by rw [hss] at hm ⊢; exact setsTo_bd hl10 hm
    have hlv : ∀ i, lv xs i = ((lvTo ss ((belowTo xs (i : Int) xs.length : Nat) : Int) ss.length : Nat) : Int) := fun i => by rw [hss]; rfl
    have hsl : ss.length ≤ xs.length := by rw [hss]; exact sets_len xs
    rw [← hss]
    have HBD := Lib.hid hbd
    have HLV := Lib.hid hlv
    clear hss hbd hlv
    rintro e w2 ⟨a2, cap2, rfl, ho2, hb2⟩
    have A2 := A1.below hb2
    have bw2 := bw1.trans (hb2.mono bw1.size)
    have hrs := ho2.rd
    have zw2 : w.heap.size + 1 ≤ w2.heap.size := by have := A2.1; omega
    clear zA cA dA A1 hb2
    have ⟨zA, cA, dA⟩ := A2
    go_wp2_with (at_make; refine wpList_make_full _ rfl (.tmp 22) (.tmp 22) 26 rfl w2.heap.size 3 i0 (.int .i64 0) 1 Try.underlying26 hi hz0 hz1 .i64 .i64 _ _ xs.length rfl rfl rfl rfl (by rw [hz2]; omega) (by unfold maxLen; omega) (Nat.le_refl _) ?_; intro w3 hown hgrow; have A3 := A2.kept hgrow (by simp))
    have hb3 : Below w2.heap.size w2 w3 := (Below.refl _ _).grown hgrow (Nat.le_refl _) (fun k h => by cases h)
    have hown0 := made_row (lv xs) hown
    clear hown hgrow cA dA zA A2
    go_wp2_with fail
    go_loopw [26] (fun i wr => ∃ k : Nat, k ≤ xs.length ∧ i = .int .i64 k ∧ OwnI wr w2.heap.size (.slice (some ⟨w2.heap.size, 0, none⟩) xs.length xs.length) (rowF (lv xs) xs.length k) ∧ Below w2.heap.size w2 wr ∧ Box2 wr w.heap.size (.int .i64 (xs.length : Int)) (.slice a xs.length cap)) (fun i _ => xs.length - (intOf i).toNat)
    case atStart => exact ⟨0, Nat.zero_le _, rfl, hown0, hb3, A3⟩
    case round =>
      obtain ⟨k, hk, rfl, hown, hb, hA⟩ := hrel
      have ⟨zB, cB, dB⟩ := hA
      by_cases hlt : k < xs.length
      · have k0 : (0 : Int) ≤ (k : Int) := by omega
        have k1 : (k : Int) < (xs.length : Int) := by omega
        have hbt := belowTo_small xs (k : Int) (k := xs.length) hl10
        go_wp2_with fail
        refine (belowSet_any _ _ _ _ _ _ (hx.below (bw2.trans (hb.mono bw2.size))) hp k0).mono ?_
        rintro e w4 ⟨rfl, hb4⟩
        have A4 := hA.below hb4
        have b4 := hb.trans (hb4.mono hb.size)
        have o4 := hown.below hb4 (Nat.le_refl _)
        clear cB dB hb4 hown
        go_wp2_with fail
        go_loopw [34] (fun i' wi => ∃ j : Nat, j ≤ ss.length ∧ i' = .int .i64 j ∧ OwnI wi w2.heap.size (.slice (some ⟨w2.heap.size, 0, none⟩) xs.length xs.length) ((rowF (lv xs) xs.length k).set k ((lvTo ss ((belowTo xs (k : Int) xs.length : Nat) : Int) j : Nat) : Int)) ∧ Below w2.heap.size w2 wi ∧ Box2 wi w.heap.size (.int .i64 (xs.length : Int)) (.slice a xs.length cap)) (fun i _ => ss.length - (intOf i).toNat)
        case atStart => exact ⟨0, Nat.zero_le _, rfl, by rw [lvTo, show (((0 : Nat) : Nat) : Int) = 0 from rfl, rowF_zero _ hlt]; exact o4, b4, A4⟩
        case round =>
          obtain ⟨j, hj, rfl, hown, hb, hA⟩ := hrel
          by_cases hjl : j < ss.length
          · obtain ⟨b2, off2, rfl, hbl2, hc2⟩ := (hrs.below hb).cell j hjl
            have ⟨s0, s1⟩ := HBD.out j hjl
            have hle := lvTo_le ss ((belowTo xs (k : Int) xs.length : Nat) : Int) j
            cases hne : (nth ss j != ((belowTo xs (k : Int) xs.length : Nat) : Int))
            · have HN := Lib.hid (lessB_ne hne)
              go_wp2_with fail
              go_roundw
              case rel => exact ⟨j + 1, by omega, by go_num, by simp only [lvTo, HN.out]; exact hown, hb, hA⟩
              case measure => simp [intOf]; omega
            · have hsb := lessB_sub s0 s1 hbt hne
              cases hlb : lessB (nth ss j) ((belowTo xs (k : Int) xs.length : Nat) : Int)
              · rw [hlb] at hsb
                have HN := Lib.hid hlb
                clear hlb
                go_wp2_with fail
                go_roundw
                case rel => exact ⟨j + 1, by omega, by go_num, by simp only [lvTo, HN.out]; exact hown, hb, hA⟩
                case measure => simp [intOf]; omega
              · rw [hlb] at hsb
                have HN := Lib.hid hlb
                clear hlb
                obtain ⟨row, hrow⟩ : ∃ row, row = (rowF (lv xs) xs.length k).set k ((lvTo ss ((belowTo xs (k : Int) xs.length : Nat) : Int) j : Nat) : Int) := ⟨_, rfl⟩
                have hrl : row.length = xs.length := by rw [hrow, List.length_set, rowF_len _ hk]
                have hrk : nth row k = ((lvTo ss ((belowTo xs (k : Int) xs.length : Nat) : Int) j : Nat) : Int) := by rw [hrow, nth_set (by rw [rowF_len _ hk]; exact hlt), if_pos rfl]
                have hrs : ∀ y, row.set k y = (rowF (lv xs) xs.length k).set k y := by intro y; rw [hrow, List.set_set]
                rw [← hrow] at hown
                have ⟨ci, fi⟩ := hown.at' hrl.symm (i := k) (by omega)
                rw [hrk] at ci
                have hput := hown.put hrl.symm k ((lvTo ss ((belowTo xs (k : Int) xs.length : Nat) : Int) j + 1 : Nat) : Int)
                rw [hrs] at hput
                have HP := Lib.hid hput
                clear hput hrow hrl hrk hrs hown
                go_wp2_with fail
                go_roundw
                case rel =>
                  refine ⟨j + 1, by omega, by go_num, ?_, hb.setCell (p := ⟨w2.heap.size, k, none⟩) (Nat.le_refl _) _, hA.set (p := ⟨w2.heap.size, k, none⟩) _ (show w.heap.size ≠ w2.heap.size by omega)⟩
                  have := HP.out.1
                  simp only [lvTo, HN.out, if_true]
                  exact this
                case measure => simp [intOf]; omega
          · obtain rfl : j = ss.length := by omega
            have hnext : (rowF (lv xs) xs.length k).set k ((lvTo ss ((belowTo xs (k : Int) xs.length : Nat) : Int) ss.length : Nat) : Int) = rowF (lv xs) xs.length (k + 1) := by
              rw [← rowF_set _ hlt, HLV.out]
            rw [hnext] at hown
            have HN := Lib.hid hown
            clear hnext hown
            go_wp2_with fail
            go_roundw
            case rel => exact ⟨k + 1, by omega, by go_num, HN.out, hb, hA⟩
            case measure => simp [intOf]; omega
      · obtain rfl : k = xs.length := by omega
        rw [rowF_end] at hown
        go_wp2_with fail
        refine bodyPost_ret (v := .tuple #[.slice (some ⟨w2.heap.size, 0, none⟩) xs.length xs.length, .bool true]) (by simp [results, Try.results68, go_sem]) rfl ?_
        exact ⟨some ⟨w2.heap.size, 0, none⟩, xs.length, by rw [H1.out, levs_len], by rw [H1.out, levs_len]; exact hown.mono bw2.size, bw2.trans (hb.mono bw2.size)⟩

/-- the row while the right end of k is being found -/
def endRow (xs : List Int) (k j : Nat) : List Int := ((rowP (lv xs) (rtE xs) xs.length k).set (k * 2) (lv xs k)).set (k * 2 + 1) (rtTo 0 xs k j)
theorem endRow_len (xs : List Int) {k : Nat} (j : Nat) (h : k ≤ xs.length) : (endRow xs k j).length = xs.length * 2 := by
  rw [endRow, List.length_set, List.length_set, rowP_len _ _ h]
theorem endRow_zero (xs : List Int) {k : Nat} (h : k < xs.length) : (rowP (lv xs) (rtE xs) xs.length k).set (k * 2) (lv xs k) = endRow xs k 0 := by
  have hl := rowP_len (lv xs) (rtE xs) (Nat.le_of_lt h)
  apply nth_ext' (by rw [endRow_len xs 0 (by omega), List.length_set, hl])
  intro i hi
  rw [List.length_set, hl] at hi
  rw [endRow, nth_set' (xs := (rowP (lv xs) (rtE xs) xs.length k).set (k * 2) (lv xs k)) (by rw [List.length_set, hl]; omega)]
  by_cases e : k * 2 + 1 = i
  · subst e
    rw [if_pos rfl, nth_set' (by rw [hl]; omega), if_neg (by omega), rowP_nth _ _ (by omega) hi, if_neg (by omega)]
    rfl
  · rw [if_neg e]
theorem endRow_end (xs : List Int) {k : Nat} (h : k < xs.length) : endRow xs k xs.length = rowP (lv xs) (rtE xs) xs.length (k + 1) := rowP_next _ _ h
theorem endRow_set (xs : List Int) (k j : Nat) (y : Int) : (endRow xs k j).set (k * 2 + 1) y = ((rowP (lv xs) (rtE xs) xs.length k).set (k * 2) (lv xs k)).set (k * 2 + 1) y := by
  rw [endRow, List.set_set]
theorem endRow_nth (xs : List Int) {k : Nat} (j : Nat) (h : k < xs.length) : nth (endRow xs k j) (k * 2 + 1) = rtTo 0 xs k j := by
  rw [endRow, nth_set' (by rw [List.length_set, rowP_len _ _ (by omega)]; omega), if_pos rfl]
theorem endRow_yes {xs : List Int} {k j : Nat} (h : hasB (nth xs k) j = true) : endRow xs k (j+1) = endRow xs k j := by
  rw [endRow, endRow, rtTo, if_pos h]
theorem iEnds_any (n : Int) (a : Option Addr) (xs : List Int) (cap : Nat) (w : World) (hn : -9223372036854775808 ≤ n ∧ n ≤ 9223372036854775807) (hx : Rd w a xs) :
    Calls Try.prog 15 #[.agg #[.int .i64 n, .slice a xs.length cap]] w (GotV w (endN n xs) (endL n xs) (isIv n xs)) := by
  have hx1 := hx.alloc (.cells #[.int .i64 n, .slice a xs.length cap] 28)
  obtain ⟨i0, hi, hz0, hz1, hz2⟩ := info_parts infoIv
  cases hr : isIv n xs
  · have H1 : Hid (endN n xs = 0) := by simp [Hid, endN, hr]
    have H2 : Hid (endL n xs = []) := by simp [Hid, endL, hr]
    have H3 : Hid (levL n xs = []) := by simp [Hid, levL, hr]
    have HR := Lib.hid hr
    clear hr
    go_enter Try.func15, Try.ntmps15
    go_wp2_with fail
    refine (iLevels_any _ _ _ _ _ hn hx1).mono ?_
    rw [HR.out, H3.out]
    rintro e w1 ⟨a1, cap1, rfl, ho1, hb1⟩
    have bw1 : Below w.heap.size w w1 := Below.trans (by repeat (first | exact Below.refl _ _ | assumption | refine Below.alloc ?_ (by first | exact Nat.le_refl _ | (simp only [World.size_alloc, World.size_setCell, World.size_drew]; omega) | omega) _ | refine Below.setCell ?_ (by first | exact Nat.le_refl _ | (simp only [World.size_alloc, World.size_setCell, World.size_drew]; omega) | omega) _ | refine Below.drew ?_)) (hb1.mono (by first | (simp only [World.size_alloc, World.size_setCell, World.size_drew]; omega) | omega))
    clear ho1
    go_wp2_with fail
    refine bodyPost_ret (v := .tuple #[.slice none 0 0, .bool false]) (by simp [results, Try.results15, go_sem]) rfl ?_
    exact ⟨none, 0, by rw [H1.out], by rw [H1.out, H2.out]; exact OwnV.nil _ _, bw1⟩
  · have ho := isIv_ord hr
    have hp := ord_rel ho
    have H1 : Hid (endN n xs = xs.length) := by simp [Hid, endN, hr]
    have H2 : Hid (endL n xs = endp xs xs.length) := by simp [Hid, endL, hr]
    have H3 : Hid (levL n xs = levs xs xs.length) := by simp [Hid, levL, hr]
    have HR := Lib.hid hr
    obtain rfl : n = (xs.length : Int) := hp.len.symm
    have hl10 : xs.length ≤ 10 := by have := hp.n1; omega
    clear hr ho
    go_enter Try.func15, Try.ntmps15
    go_wp2_with fail
    refine (iLevels_any _ _ _ _ _ hn hx1).mono ?_
    rw [HR.out, H3.out, levs_len]
    rintro e w1 ⟨a1, cap1, rfl, ho1, hb1⟩
    have A1 : Box2 w1 w.heap.size (.int .i64 (xs.length : Int)) (.slice a xs.length cap) := (Box2.new w _ _ _).below hb1
    have bw1 : Below w.heap.size w w1 := Below.trans (by repeat (first | exact Below.refl _ _ | assumption | refine Below.alloc ?_ (by first | exact Nat.le_refl _ | (simp only [World.size_alloc, World.size_setCell, World.size_drew]; omega) | omega) _ | refine Below.setCell ?_ (by first | exact Nat.le_refl _ | (simp only [World.size_alloc, World.size_setCell, World.size_drew]; omega) | omega) _ | refine Below.drew ?_)) (hb1.mono (by first | (simp only [World.size_alloc, World.size_setCell, World.size_drew]; omega) | omega))
    have ⟨zA, cA, dA⟩ := A1
    have hrl : Rd w1 a1 (levs xs xs.length) := ho1.rd
    clear hb1 ho1
    go_wp2_with (at_make; refine wpList_make_full _ rfl (.tmp 19) (.tmp 19) 24 rfl w1.heap.size 40 i0 (.agg #[.int .i64 0, .int .i64 0]) 2 Try.underlying24 hi hz0 hz1 .i64 .i64 _ _ xs.length rfl rfl rfl rfl (by rw [hz2]; omega) (by unfold maxLen; omega) (Nat.le_refl _) ?_; intro w2 hown hgrow; have A2 := A1.kept hgrow (by simp))
    have hb2 : Below w1.heap.size w1 w2 := (Below.refl _ _).grown hgrow (Nat.le_refl _) (fun k h => by cases h)
    have hown0 := made_rowP (lv xs) (rtE xs) hown
    clear hown hgrow cA dA
    go_wp2_with fail
    go_loopw [23] (fun i wr => ∃ k : Nat, k ≤ xs.length ∧ i = .int .i64 k ∧ OwnV wr w1.heap.size (.slice (some ⟨w1.heap.size, 0, none⟩) xs.length xs.length) xs.length (rowP (lv xs) (rtE xs) xs.length k) ∧ Below w1.heap.size w1 wr ∧ Box2 wr w.heap.size (.int .i64 (xs.length : Int)) (.slice a xs.length cap)) (fun i _ => xs.length - (intOf i).toNat)
    case atStart => exact ⟨0, Nat.zero_le _, rfl, hown0, hb2, A2⟩
    case round =>
      obtain ⟨k, hk, rfl, hown, hb, hA⟩ := hrel
      by_cases hlt : k < xs.length
      · obtain ⟨b, off, rfl, hbl, hck⟩ := (hrl.below hb).cell k (by rw [levs_len]; exact hlt)
        rw [levs_nth xs hlt] at hck
        have k0 : (0 : Int) ≤ (k : Int) := by omega
        have k1 : (k : Int) < (xs.length : Int) := by omega
        have hpl := rowP_len (lv xs) (rtE xs) hk
        have ⟨c1, f1⟩ := hown.at' (i := k * 2) (by omega)
        have p1 := hown.put (k * 2) (lv xs k)
        rw [endRow_zero xs hlt] at p1
        have P1 := Lib.hid p1.1
        have A3 := hA.kept p1.2 (by simp; omega)
        have b3 := hb.setCell (p := ⟨w1.heap.size, k * 2, none⟩) (Nat.le_refl _) (.int .i64 (lv xs k))
        clear hown p1 hpl
        go_wp2_with fail
        go_loopw [35] (fun i' wi => ∃ j : Nat, j ≤ xs.length ∧ i' = .int .i64 j ∧ OwnV wi w1.heap.size (.slice (some ⟨w1.heap.size, 0, none⟩) xs.length xs.length) xs.length (endRow xs k j) ∧ Below w1.heap.size w1 wi ∧ Box2 wi w.heap.size (.int .i64 (xs.length : Int)) (.slice a xs.length cap)) (fun i _ => xs.length - (intOf i).toNat)
        case atStart => exact ⟨0, Nat.zero_le _, rfl, P1.out, b3, A3⟩
        case round =>
          obtain ⟨j, hj, rfl, hown, hb, hA⟩ := hrel
          have ⟨zB, cB, dB⟩ := hA
          by_cases hjl : j < xs.length
          · obtain ⟨b2, off2, e2, hbl2, hcj⟩ := (hrl.below hb).cell j (by rw [levs_len]; exact hjl)
            simp only [Option.some.injEq, Addr.mk.injEq, and_true] at e2
            obtain ⟨rfl, rfl⟩ := e2
            rw [levs_nth xs hjl] at hcj
            obtain ⟨b3, off3, rfl, hbl3, hc3⟩ := (hx.below (bw1.trans (hb.mono bw1.size))).cell k hlt
            have s0 := hp.pos k hlt
            have s2 : nth xs k ≤ 9223372036854775807 := by have := hp.small k hlt; omega
            have j0 : (0 : Int) ≤ (j : Int) := by omega
            have j1 : (j : Int) < (xs.length : Int) := by omega
            cases hhas : hasB (nth xs k) j
            · have hel := endRow_len xs (k := k) j hk
              have ⟨c2, f2⟩ := hown.at' (i := k * 2 + 1) (by omega)
              rw [endRow_nth xs j hlt] at c2
              have ⟨r0, r1⟩ := rtTo_bd (st := 0) (xs := xs) (i := k) (k := j) (by omega) (by omega)
              have ⟨l0, l1⟩ := lv_bd xs j
              have p2 := hown.put (k * 2 + 1) (rtTo 0 xs k (j + 1))
              rw [endRow_set] at p2
              have P2 := Lib.hid p2.1
              have A4 := hA.kept p2.2 (by simp; omega)
              have b4 := hb.setCell (p := ⟨w1.heap.size, k * 2 + 1, none⟩) (Nat.le_refl _) (.int .i64 (rtTo 0 xs k (j + 1)))
              have hmx : max (rtTo 0 xs k j) (lv xs j) = rtTo 0 xs k (j + 1) := by rw [rtTo_no hhas, maxI]; split <;> omega
              have HM := Lib.hid hmx
              clear p2 hel hown hmx
              go_wp2_with (go_at_call 69; refine (hasElement_any _ _ _ (by assumption) (by assumption) (by assumption)).mono ?_; rintro e w' ⟨rfl, rfl⟩)
              go_roundw
              case rel => rw [HM.out]; exact ⟨j + 1, by omega, by go_num, P2.out, b4, A4⟩
              case measure => simp [intOf]; omega
            · have HE := Lib.hid (endRow_yes hhas)
              go_wp2_with (go_at_call 69; refine (hasElement_any _ _ _ (by assumption) (by assumption) (by assumption)).mono ?_; rintro e w' ⟨rfl, rfl⟩)
              go_roundw
              case rel => exact ⟨j + 1, by omega, by go_num, by rw [HE.out]; exact hown, hb, hA⟩
              case measure => simp [intOf]; omega
          · obtain rfl : j = xs.length := by omega
            rw [endRow_end xs hlt] at hown
            go_wp2_with fail
            go_roundw
            case rel => exact ⟨k + 1, by omega, by go_num, hown, hb, hA⟩
            case measure => simp [intOf]; omega
      · obtain rfl : k = xs.length := by omega
        rw [rowP_end] at hown
        go_wp2_with fail
        refine bodyPost_ret (v := .tuple #[.slice (some ⟨w1.heap.size, 0, none⟩) xs.length xs.length, .bool true]) (by simp [results, Try.results15, go_sem]) rfl ?_
        exact ⟨some ⟨w1.heap.size, 0, none⟩, xs.length, by rw [H1.out], by rw [H1.out, H2.out]; exact hown.mono bw1.size, bw1.trans (hb.mono bw1.size)⟩

theorem iInsert_any (n : Int) (a : Option Addr) (xs : List Int) (cap : Nat) (x y : Int) (w : World) (hn : -9223372036854775808 ≤ n ∧ n ≤ 9223372036854775807) (hx : Rd w a xs) :
    Calls Try.prog 24 #[.agg #[.int .i64 n, .slice a xs.length cap], .agg #[.int .i64 x, .int .i64 y]] w (GotO w (insN n xs x y) (insL n xs x y) (insB n xs x y)) := by
  have hx1 := ((hx.alloc (.cells #[.int .i64 n, .slice a xs.length cap] 28)).alloc (.cells #[.int .i64 x, .int .i64 y] 40)).alloc (.cells #[.int .i64 0, .slice none 0 0] 28)
  obtain ⟨i0, hi, hz0, hz1, hz2⟩ := info_parts infoIv
  cases hr : isIv n xs
  · have H1 : Hid (endN n xs = 0) := by simp [Hid, endN, hr]
    have H2 : Hid (endL n xs = []) := by simp [Hid, endL, hr]
    have hib : insB n xs x y = false := by simp [insB, hr]
    have H3 : Hid (insN n xs x y = 0) := by simp [Hid, insN, hib]
    have H4 : Hid (insL n xs x y = []) := by simp [Hid, insL, hib]
    have HI := Lib.hid hib
    have HR := Lib.hid hr
    clear hr hib
    go_enter Try.func24, Try.ntmps24
    go_wp2_with fail
    refine (iEnds_any _ _ _ _ _ hn hx1).mono ?_
    rw [HR.out, H1.out, H2.out]
    rintro e w1 ⟨p1, q1, rfl, ho1, hb1⟩
    have R1 : Var2 w1 (w.heap.size + 2) (.int .i64 0) (.slice none 0 0) := by
      have := (Var2.new ((w.alloc (.cells #[.int .i64 n, .slice a xs.length cap] 28)).alloc (.cells #[.int .i64 x, .int .i64 y] 40)) (.int .i64 0) (.slice none 0 0) 28).below hb1
      simpa using this
    have ⟨⟨zR, cR, dR⟩, fR, gR⟩ := R1
    have bw1 : Below w.heap.size w w1 := Below.trans (by repeat (first | exact Below.refl _ _ | assumption | refine Below.alloc ?_ (by first | exact Nat.le_refl _ | (simp only [World.size_alloc, World.size_setCell, World.size_drew]; omega) | omega) _ | refine Below.setCell ?_ (by first | exact Nat.le_refl _ | (simp only [World.size_alloc, World.size_setCell, World.size_drew]; omega) | omega) _ | refine Below.drew ?_)) (hb1.mono (by first | (simp only [World.size_alloc, World.size_setCell, World.size_drew]; omega) | omega))
    clear hb1 ho1
    go_wp2_with fail
    have R3 := R1.set (.int .i64 0) (.slice none 0 0)
    refine bodyPost_ret (v := .tuple #[.agg #[.int .i64 0, .slice none 0 0], .bool false]) (by have ⟨⟨_, q1, q2⟩, _, _⟩ := R3; simp [results, Try.results24, go_sem, q1, q2]) rfl ?_
    refine ⟨none, 0, ?_, ?_, ?_⟩
    · rw [H3.out, H4.out, HI.out]; rfl
    · rw [H4.out]; exact OwnI.nil _ _
    · exact (bw1.setCell (p := ⟨w.heap.size + 2, 0, none⟩) (show w.heap.size ≤ w.heap.size + 2 by omega) _).setCell (p := ⟨w.heap.size + 2, 1, none⟩) (show w.heap.size ≤ w.heap.size + 2 by omega) _
  · have hp := ord_rel (isIv_ord hr)
    have h10 : xs.length ≤ 10 := by have := hp.len; have := hp.n1; omega
    have H1 : Hid (endN n xs = xs.length) := by simp [Hid, endN, hr]
    have H2 : Hid (endL n xs = endp xs xs.length) := by simp [Hid, endL, hr]
    have H3 : Hid (ooN (insC xs x y) (xs.length + 1) = insN n xs x y) := ins_ooN hr
    have H4 : Hid (ooL (insC xs x y) (xs.length + 1) = insL n xs x y) := ins_ooL hr
    have H5 : Hid (goodV (insC xs x y) (xs.length + 1) = insB n xs x y) := ins_good hr
    have HC : Hid (insC xs x y = endp xs xs.length ++ [x, y]) := rfl
    have HCL := Lib.hid (insC_len xs x y)
    have HR := Lib.hid hr
    clear hr hp
    go_enter Try.func24, Try.ntmps24
    go_wp2_with fail
    refine (iEnds_any _ _ _ _ _ hn hx1).mono ?_
    rw [HR.out, H1.out, H2.out]
    rintro e w1 ⟨p1, q1, rfl, ho1, hb1⟩
    have I1 : Box2 w1 (w.heap.size + 1) (.int .i64 x) (.int .i64 y) := by
      have := ((Box2.new (w.alloc (.cells #[.int .i64 n, .slice a xs.length cap] 28)) (.int .i64 x) (.int .i64 y) 40).below ((Below.refl _ _).alloc (Nat.le_refl _) (.cells #[.int .i64 0, .slice none 0 0] 28))).below hb1
      simpa using this
    have R1 : Var2 w1 (w.heap.size + 2) (.int .i64 0) (.slice none 0 0) := by
      have := (Var2.new ((w.alloc (.cells #[.int .i64 n, .slice a xs.length cap] 28)).alloc (.cells #[.int .i64 x, .int .i64 y] 40)) (.int .i64 0) (.slice none 0 0) 28).below hb1
      simpa using this
    have ⟨zI, cI, dI⟩ := I1
    have bw1 : Below w.heap.size w w1 := Below.trans (by repeat (first | exact Below.refl _ _ | assumption | refine Below.alloc ?_ (by first | exact Nat.le_refl _ | (simp only [World.size_alloc, World.size_setCell, World.size_drew]; omega) | omega) _ | refine Below.setCell ?_ (by first | exact Nat.le_refl _ | (simp only [World.size_alloc, World.size_setCell, World.size_drew]; omega) | omega) _ | refine Below.drew ?_)) (hb1.mono (by first | (simp only [World.size_alloc, World.size_setCell, World.size_drew]; omega) | omega))
    have hz1' := bw1.size
    have o1 : OwnV w1 (w.heap.size + 3) (.slice p1 xs.length q1) xs.length (endp xs xs.length) := by simpa using ho1
    have hU := o1.lt
    have hzR := R1.1.1
    clear hb1 ho1
    go_wp2_with (at_builtin; refine wpList_append_own _ rfl _ _ 24 rfl (w.heap.size + 3) 40 i0 (.agg #[.int .i64 0, .int .i64 0]) 2 16 Try.underlying24 hi hz0 hz1 hz2 rfl (by decide) (.slice p1 xs.length q1) xs.length ((endp xs xs.length).map (Value.int .i64)) rfl (o1.alloc (.cells #[.int .i64 x, .int .i64 y] 40)) ⟨w1.heap.size, 0, none⟩ 1 1 [.int .i64 x, .int .i64 y] rfl rfl (cell_two_new _ _ _ _) (two_one _ _) (by unfold maxLen; omega) (by omega) (by simp; omega) ?_)
    intro v' w3 hown3 hgrow _
    have hg2 := grown_alloc_set hgrow
    have o3 : OwnV w3 (w.heap.size + 3) v' (xs.length + 1) (insC xs x y) := by
      rw [HC.out]
      unfold OwnV
      rw [List.map_append]
      exact hown3
    have bw3 := bw1.trans (below_of_grown hg2 (fun c e => by have := hU c e; omega) hz1')
    have R3 := R1.kept hg2 (ne_own (fun c e => by have := hU c e; omega))
    obtain ⟨a3, c3, rfl⟩ := o3.form
    have r3 := o3.rd (by omega)
    have hz3 := R3.1.1
    clear hown3 hgrow hg2 o3
    go_wp2_with fail
    refine (iOrderOfIv_any _ _ _ _ _ r3 HCL.out (by omega)).mono ?_
    rw [H3.out, H4.out, H5.out]
    rintro e w4 ⟨p4, q4, rfl, ho4, hb4⟩
    have R4 := R3.below hb4
    have ⟨⟨zR, cR, dR⟩, fR, gR⟩ := R4
    have bw4 := bw3.trans (hb4.mono bw3.size)
    go_wp2_with fail
    have R5 := R4.set (.int .i64 (insN n xs x y)) (.slice p4 (insL n xs x y).length q4)
    refine bodyPost_ret (v := .tuple #[.agg #[.int .i64 (insN n xs x y), .slice p4 (insL n xs x y).length q4], .bool (insB n xs x y)]) (by have ⟨⟨_, q1, q2⟩, _, _⟩ := R5; simp [results, Try.results24, go_sem, q1, q2]) rfl ?_
    refine ⟨p4, q4, rfl, ?_, ?_⟩
    · exact ((ho4.setBelow (p := ⟨w.heap.size + 2, 0, none⟩) (show w.heap.size + 2 < w3.heap.size by omega) _).setBelow (p := ⟨w.heap.size + 2, 1, none⟩) (show w.heap.size + 2 < w3.heap.size by omega) _).mono (show w.heap.size ≤ w3.heap.size by omega)
    · exact (bw4.setCell (p := ⟨w.heap.size + 2, 0, none⟩) (show w.heap.size ≤ w.heap.size + 2 by omega) _).setCell (p := ⟨w.heap.size + 2, 1, none⟩) (show w.heap.size ≤ w.heap.size + 2 by omega) _

theorem ivRefuses_any (n : Int) (ad : Option Addr) (xs : List Int) (cap : Nat) (a b c d : Nat) (w : World) (hx : Rd w ad xs) (hr : RelP n xs) (ha : a < xs.length) (hc : c < xs.length) :
    Calls Try.prog 174 #[.agg #[.int .i64 n, .slice ad xs.length cap], .int .i64 a, .int .i64 b, .int .i64 c, .int .i64 d] w fun e w' => e = .returned (.bool (refB xs a b c d)) ∧ Below w.heap.size w w' := by
  have hx1 := hx.alloc (.cells #[.int .i64 n, .slice ad xs.length cap] 28)
  have hn : xs.length ≤ 10 := by have := hr.len; have := hr.n1; omega
  have pa := hr.pos a ha
  have sa : nth xs a ≤ 9223372036854775807 := by have := hr.small a ha; omega
  have pc := hr.pos c hc
  have sc : nth xs c ≤ 9223372036854775807 := by have := hr.small c hc; omega
  have b0 : (0 : Int) ≤ (b : Int) := by omega
  have d0 : (0 : Int) ≤ (d : Int) := by omega
  have a1 : (a : Int) < (xs.length : Int) := by omega
  have c1 : (c : Int) < (xs.length : Int) := by omega
  obtain ⟨bl, off, rfl, hbl, hca⟩ := hx1.cell a ha
  obtain ⟨b', off', e', hbl', hcc⟩ := hx1.cell c hc
  simp only [Option.some.injEq, Addr.mk.injEq, and_true] at e'
  obtain ⟨rfl, rfl⟩ := e'
  obtain ⟨b', off', e', hbl0, hca0⟩ := hx.cell a ha
  simp only [Option.some.injEq, Addr.mk.injEq, and_true] at e'
  obtain ⟨rfl, rfl⟩ := e'
  obtain ⟨b', off', e', hbl0, hcc0⟩ := hx.cell c hc
  simp only [Option.some.injEq, Addr.mk.injEq, and_true] at e'
  obtain ⟨rfl, rfl⟩ := e'
  cases h1 : hasB (nth xs a) b
  · have HF : Hid (refB xs a b c d = false) := by simp [Hid, refB, h1]
    go_enter Try.func174, Try.ntmps174
    go_wp2_with (go_at_call 118; refine (orHas_any _ _ _ (by assumption) (by assumption) (by assumption)).mono ?_; rintro e w' ⟨rfl, rfl⟩)
    go_ret
    exact ⟨ret_bool HF.out.symm, (by repeat (first | exact Below.refl _ _ | assumption | refine Below.alloc ?_ (by first | exact Nat.le_refl _ | (simp only [World.size_alloc, World.size_setCell, World.size_drew]; omega) | omega) _ | refine Below.setCell ?_ (by first | exact Nat.le_refl _ | (simp only [World.size_alloc, World.size_setCell, World.size_drew]; omega) | omega) _ | refine Below.drew ?_))⟩
  · cases h2 : hasB (nth xs c) d
    · have HF : Hid (refB xs a b c d = false) := by simp [Hid, refB, h2]
      go_enter Try.func174, Try.ntmps174
      go_wp2_with (go_at_call 118; refine (orHas_any _ _ _ (by assumption) (by assumption) (by assumption)).mono ?_; rintro e w' ⟨rfl, rfl⟩)
      go_ret
      exact ⟨ret_bool HF.out.symm, (by repeat (first | exact Below.refl _ _ | assumption | refine Below.alloc ?_ (by first | exact Nat.le_refl _ | (simp only [World.size_alloc, World.size_setCell, World.size_drew]; omega) | omega) _ | refine Below.setCell ?_ (by first | exact Nat.le_refl _ | (simp only [World.size_alloc, World.size_setCell, World.size_drew]; omega) | omega) _ | refine Below.drew ?_))⟩
    · cases h3 : hasB (nth xs c) b
      · have HF : Hid (refB xs a b c d = !hasB (nth xs a) d) := by simp [Hid, refB, h1, h2, h3]
        go_enter Try.func174, Try.ntmps174
        go_wp2_with (go_at_call 118; refine (orHas_any _ _ _ (by assumption) (by assumption) (by assumption)).mono ?_; rintro e w' ⟨rfl, rfl⟩)
        go_ret
        exact ⟨ret_bool HF.out.symm, (by repeat (first | exact Below.refl _ _ | assumption | refine Below.alloc ?_ (by first | exact Nat.le_refl _ | (simp only [World.size_alloc, World.size_setCell, World.size_drew]; omega) | omega) _ | refine Below.setCell ?_ (by first | exact Nat.le_refl _ | (simp only [World.size_alloc, World.size_setCell, World.size_drew]; omega) | omega) _ | refine Below.drew ?_))⟩
      · have HF : Hid (refB xs a b c d = false) := by simp [Hid, refB, h3]
        go_enter Try.func174, Try.ntmps174
        go_wp2_with (go_at_call 118; refine (orHas_any _ _ _ (by assumption) (by assumption) (by assumption)).mono ?_; rintro e w' ⟨rfl, rfl⟩)
        go_ret
        exact ⟨ret_bool HF.out.symm, (by repeat (first | exact Below.refl _ _ | assumption | refine Below.alloc ?_ (by first | exact Nat.le_refl _ | (simp only [World.size_alloc, World.size_setCell, World.size_drew]; omega) | omega) _ | refine Below.setCell ?_ (by first | exact Nat.le_refl _ | (simp only [World.size_alloc, World.size_setCell, World.size_drew]; omega) | omega) _ | refine Below.drew ?_))⟩

/-- nothing refuses ahead of the list k, l, m, o -/
def NoRef (xs : List Int) (k l m o : Nat) : Prop :=
  (∀ a, a < k → find1 (pairF xs a) xs.length = none) ∧ (∀ b, b < l → pairF xs k b = none) ∧ (∀ c, c < m → find1 (refF xs k l c) xs.length = none) ∧ ∀ d, d < o → refF xs k l m d = none
theorem NoRef.d {xs : List Int} {k l m o : Nat} (h : NoRef xs k l m o) (h1 : refB xs k l m o = false) : NoRef xs k l m (o+1) :=
  ⟨h.1, h.2.1, h.2.2.1, fun d hd => by
    by_cases e : d = o
    · rw [e, refF, h1]; rfl
    · exact h.2.2.2 d (by omega)⟩
theorem NoRef.c {xs : List Int} {k l m : Nat} (h : NoRef xs k l m xs.length) : NoRef xs k l (m+1) 0 :=
  ⟨h.1, h.2.1, fun c hc => by
    by_cases e : c = m
    · rw [e]; exact find1_none h.2.2.2
    · exact h.2.2.1 c (by omega), fun d hd => by omega⟩
theorem NoRef.b {xs : List Int} {k l : Nat} (h : NoRef xs k l xs.length 0) : NoRef xs k (l+1) 0 0 :=
  ⟨h.1, fun b hb => by
    by_cases e : b = l
    · rw [e, pairF_ref]; exact find1_none h.2.2.1
    · exact h.2.1 b (by omega), fun c hc => by omega, fun d hd => by omega⟩
theorem NoRef.a {xs : List Int} {k : Nat} (h : NoRef xs k xs.length 0 0) : NoRef xs (k+1) 0 0 0 :=
  ⟨fun a ha => by
    by_cases e : a = k
    · rw [e]; exact find1_none h.2.1
    · exact h.1 a (by omega), fun b hb => by omega, fun c hc => by omega, fun d hd => by omega⟩
theorem NoRef.no {xs : List Int} {l m o : Nat} (h : NoRef xs xs.length l m o) : twoF xs = none := find1_none h.1
theorem NoRef.yes {xs : List Int} {k l m o : Nat} (h : NoRef xs k l m o) (hk : k < xs.length) (hl : l < xs.length) (hm : m < xs.length) (ho : o < xs.length) (h1 : refB xs k l m o = true) :
    twoF xs = some [(k : Int), (l : Int), (m : Int), (o : Int)] :=
  find1_some hk (find1_some hl (by rw [pairF_ref]; exact find1_some hm (find1_some ho (by rw [refF, h1]; rfl) h.2.2.2) h.2.2.1) h.2.1) h.1
theorem ivTwoTwo_any (n : Int) (a : Option Addr) (xs : List Int) (cap : Nat) (w : World) (hx : Rd w a xs) (hp : RelP n xs) :
    Calls Try.prog 157 #[.agg #[.int .i64 n, .slice a xs.length cap]] w fun e w' => ∃ a' cap', e = .returned (.tuple #[.slice a' ((twoF xs).getD []).length cap', .bool (twoF xs).isSome]) ∧ OwnI w' w.heap.size (.slice a' ((twoF xs).getD []).length cap') ((twoF xs).getD []) ∧ Below w.heap.size w w' := by
  have hl10 : xs.length ≤ 10 := by have := hp.len; have := hp.n1; omega
  obtain rfl : n = (xs.length : Int) := hp.len.symm
  go_enter Try.func157, Try.ntmps157
  go_wp2_with fail
  go_loopw [4] (fun i' wr => ∃ k : Nat, k ≤ xs.length ∧ i' = .int .i64 k ∧ NoRef xs k 0 0 0 ∧ Below w.heap.size w wr ∧ Box2 wr w.heap.size (.int .i64 (xs.length : Int)) (.slice a xs.length cap)) (fun i' _ => xs.length - (intOf i').toNat)
  case atStart => exact ⟨0, Nat.zero_le _, rfl, ⟨fun c hc => by omega, fun b hb => by omega, fun b hb => by omega, fun b hb => by omega⟩, (by repeat (first | exact Below.refl _ _ | assumption | refine Below.alloc ?_ (by first | exact Nat.le_refl _ | (simp only [World.size_alloc, World.size_setCell, World.size_drew]; omega) | omega) _ | refine Below.setCell ?_ (by first | exact Nat.le_refl _ | (simp only [World.size_alloc, World.size_setCell, World.size_drew]; omega) | omega) _ | refine Below.drew ?_)), Box2.new w _ _ _⟩
  case round =>
    obtain ⟨k, hk, rfl, hall, hb, hB⟩ := hrel
    obtain ⟨wo, rfl⟩ : ∃ wo : World, wo = wr := ⟨_, rfl⟩
    have ⟨zr, cr, dr⟩ := hB
    have HA := Lib.hid hall
    clear hall
    by_cases hlt : k < xs.length
    · have k1 : (k : Int) < (xs.length : Int) := by omega
      go_wp2_with fail
      clear cr dr
      go_loopw [5] (fun i' wr => ∃ l : Nat, l ≤ xs.length ∧ i' = .int .i64 l ∧ NoRef xs k l 0 0 ∧ Below w.heap.size w wr ∧ Box2 wr w.heap.size (.int .i64 (xs.length : Int)) (.slice a xs.length cap)) (fun i' _ => xs.length - (intOf i').toNat)
      case atStart => exact ⟨0, Nat.zero_le _, rfl, HA.out, hb, hB⟩
      case round =>
        clear hb hB
        obtain ⟨l, hl, rfl, hall, hb, hB⟩ := hrel
        obtain ⟨wp, rfl⟩ : ∃ wp : World, wp = wr := ⟨_, rfl⟩
        have ⟨zr, cr, dr⟩ := hB
        have HL := Lib.hid hall
        clear hall
        by_cases hlt2 : l < xs.length
        · have l1 : (l : Int) < (xs.length : Int) := by omega
          go_wp2_with fail
          clear cr dr
          go_loopw [6] (fun i' wr => ∃ m : Nat, m ≤ xs.length ∧ i' = .int .i64 m ∧ NoRef xs k l m 0 ∧ Below w.heap.size w wr ∧ Box2 wr w.heap.size (.int .i64 (xs.length : Int)) (.slice a xs.length cap)) (fun i' _ => xs.length - (intOf i').toNat)
          case atStart => exact ⟨0, Nat.zero_le _, rfl, HL.out, hb, hB⟩
          case round =>
            clear hb hB
            obtain ⟨m, hm, rfl, hall, hb, hB⟩ := hrel
            obtain ⟨wq, rfl⟩ : ∃ wq : World, wq = wr := ⟨_, rfl⟩
            have ⟨zr, cr, dr⟩ := hB
            have HM := Lib.hid hall
            clear hall
            by_cases hlt3 : m < xs.length
            · have m1 : (m : Int) < (xs.length : Int) := by omega
              go_wp2_with fail
              clear cr dr
              go_loopw [7] (fun i' wr => ∃ o : Nat, o ≤ xs.length ∧ i' = .int .i64 o ∧ NoRef xs k l m o ∧ Below w.heap.size w wr ∧ Box2 wr w.heap.size (.int .i64 (xs.length : Int)) (.slice a xs.length cap)) (fun i' _ => xs.length - (intOf i').toNat)
              case atStart => exact ⟨0, Nat.zero_le _, rfl, HM.out, hb, hB⟩
              case round =>
                clear hb hB
                obtain ⟨o, ho, rfl, hall, hb, hB⟩ := hrel
                have ⟨zr, cr, dr⟩ := hB
                have HO := Lib.hid hall
                clear hall
                by_cases hlt4 : o < xs.length
                · have o1 : (o : Int) < (xs.length : Int) := by omega
                  cases hs : refB xs k l m o
                  · have hfin := Lib.hid (HO.out.d hs)
                    have HS := Lib.hid hs
                    clear hs
                    go_wp2_with fail
                    refine (ivRefuses_any _ _ _ _ _ _ _ _ _ (hx.below hb) hp hlt hlt3).mono ?_
                    rw [HS.out]
                    rintro e w3 ⟨rfl, hb3⟩
                    have B3 := hB.below hb3
                    have bw3 := hb.trans (hb3.mono hb.size)
                    go_wp2_with fail
                    go_roundw
                    case rel => exact ⟨o + 1, by omega, by go_num, hfin.out, bw3, B3⟩
                    case measure => simp [intOf]; omega
                  · have ht := HO.out.yes hlt hlt2 hlt3 hlt4 hs
                    have HT := Lib.hid ht
                    have HS := Lib.hid hs
                    clear hs ht
                    go_wp2_with fail
                    refine (ivRefuses_any _ _ _ _ _ _ _ _ _ (hx.below hb) hp hlt hlt3).mono ?_
                    rw [HS.out]
                    rintro e w3 ⟨rfl, hb3⟩
                    have bw3 := hb.trans (hb3.mono hb.size)
                    go_wp2_with fail
                    refine bodyPost_ret (v := .tuple #[.slice (some ⟨w3.heap.size, 0, none⟩) 4 4, .bool true]) (by simp [results, Try.results157, go_sem]) rfl ?_
                    refine ⟨some ⟨w3.heap.size, 0, none⟩, 4, by rw [HT.out]; rfl, ?_, bw3.alloc bw3.size _⟩
                    rw [HT.out]
                    exact (OwnI.new w3 [(k : Int), (l : Int), (m : Int), (o : Int)] (by simp)).mono bw3.size
                · obtain rfl : o = xs.length := by omega
                  have hfin := Lib.hid HO.out.c
                  go_wp2_with fail
                  go_roundw
                  case rel => exact ⟨m + 1, by omega, by go_num, hfin.out, hb, hB⟩
                  case measure => simp [intOf]; omega
            · obtain rfl : m = xs.length := by omega
              have hfin := Lib.hid HM.out.b
              go_wp2_with fail
              go_roundw
              case rel => exact ⟨l + 1, by omega, by go_num, hfin.out, hb, hB⟩
              case measure => simp [intOf]; omega
        · obtain rfl : l = xs.length := by omega
          have hfin := Lib.hid HL.out.a
          go_wp2_with fail
          go_roundw
          case rel => exact ⟨k + 1, by omega, by go_num, hfin.out, hb, hB⟩
          case measure => simp [intOf]; omega
    · obtain rfl : k = xs.length := by omega
      have ht := HA.out.no
      have HT := Lib.hid ht
      clear ht
      go_wp2_with fail
      refine bodyPost_ret (v := .tuple #[.slice none 0 0, .bool false]) (by simp [results, Try.results157, go_sem]) rfl ?_
      exact ⟨none, 0, by rw [HT.out]; rfl, by rw [HT.out]; exact OwnI.nil _ _, hb⟩

theorem ivIs_any (n : Int) (a : Option Addr) (xs : List Int) (cap : Nat) (w : World) (hx : Rd w a xs) (hp : RelP n xs) :
    Calls Try.prog 116 #[.agg #[.int .i64 n, .slice a xs.length cap]] w fun e w' => e = .returned (.bool (!(twoF xs).isSome)) ∧ Below w.heap.size w w' := by
  have hx1 := hx.alloc (.cells #[.int .i64 n, .slice a xs.length cap] 28)
  go_enter Try.func116, Try.ntmps116
  go_wp2_with fail
  refine (ivTwoTwo_any _ _ _ _ _ hx1 hp).mono ?_
  rintro e w2 ⟨a2, cap2, rfl, ho2, hb2⟩
  clear ho2
  go_wp2_with fail
  go_ret
  exact ⟨ret_bool (by cases twoF xs <;> rfl), Below.trans (by repeat (first | exact Below.refl _ _ | assumption | refine Below.alloc ?_ (by first | exact Nat.le_refl _ | (simp only [World.size_alloc, World.size_setCell, World.size_drew]; omega) | omega) _ | refine Below.setCell ?_ (by first | exact Nat.le_refl _ | (simp only [World.size_alloc, World.size_setCell, World.size_drew]; omega) | omega) _ | refine Below.drew ?_)) (hb2.mono (by first | (simp only [World.size_alloc, World.size_setCell, World.size_drew]; omega) | omega))⟩

theorem orList_any (s : Int) (w : World) (h0 : 0 ≤ s) (h1 : s < 1024) :
    Calls Try.prog 156 #[.int .i64 s] w fun e w' => ∃ a cap, e = .returned (.slice a (elems s.toNat).length cap) ∧ OwnI w' w.heap.size (.slice a (elems s.toNat).length cap) (elems s.toNat) ∧ Below w.heap.size w w' := by
  obtain ⟨S, rfl⟩ := Int.eq_ofNat_of_zero_le h0
  have hS : S < 1024 := by omega
  obtain ⟨i0, hi, hz0, hz1, hz2⟩ := info_parts infoInt
  have hsh : ∀ k : Nat, (S : Int) / 2 ^ min k 64 = ((S >>> k : Nat) : Int) := fun k => shr_nat S k (by omega)
  have HSH := Lib.hid hsh
  clear hsh
  go_enter Try.func156, Try.ntmps156
  go_wp2_with fail
  go_loopw [3, 4] (fun v i wr => ∃ k : Nat, k ≤ 10 ∧ i = .int .i64 k ∧ wr.ownsRow w.heap.size 3 1 v (elemsTo S k).length ((elemsTo S k).map (Value.int .i64)) ∧ Below w.heap.size w wr) (fun _ i _ => 10 - (intOf i).toNat)
  case atStart => exact ⟨0, by omega, rfl, by simpa [elemsTo] using World.ownsRow_nil _ _ _ _, Below.refl _ _⟩
  case round =>
    obtain ⟨k, hk, rfl, hown, hb⟩ := hrel
    have hln := elemsTo_len S k
    have hsz := hb.size
    have hq := HSH.out k
    rw [show min k 64 = k from by omega] at hq
    by_cases hz : S >>> k = 0
    · have ht : ¬ (0 : Int) < (S : Int) / 2 ^ k := by rw [hq, hz]; omega
      have HZ := Lib.hid hz
      clear hq hz
      go_wp2_with fail
      go_ret
      have e := elems_at HZ.out hk
      rw [e] at hown
      obtain ⟨a, cap, rfl⟩ := OwnI.form hown
      exact ⟨a, cap, rfl, hown, hb⟩
    · have ht : (0 : Int) < (S : Int) / 2 ^ k := by rw [hq]; exact Int.natCast_pos.2 (Nat.pos_of_ne_zero hz)
      have hk9 : k < 10 := by
        rcases Nat.lt_or_ge k 10 with h | h
        · exact h
        · obtain rfl : k = 10 := by omega
          exact absurd (by rw [Nat.shiftRight_eq_div_pow]; exact Nat.div_eq_of_lt (by omega)) hz
      clear hq hz
      have hhas : hasB (S : Int) (k : Int) = S.testBit k := rfl
      cases hin : S.testBit k
      · rw [hin] at hhas
        go_wp2_with (go_at_call 118; refine (orHas_any _ _ _ (by omega) (by omega) (by omega)).mono ?_; rintro e w' ⟨rfl, rfl⟩)
        go_roundw
        case rel => exact ⟨k + 1, by omega, by go_num, by simpa [elemsTo, hin] using hown, hb⟩
        case measure => simp [intOf]; omega
      · rw [hin] at hhas
        go_wp2_with (first | (go_at_call 118; refine (orHas_any _ _ _ (by omega) (by omega) (by omega)).mono ?_; rintro e w' ⟨rfl, rfl⟩) | (at_builtin; refine wpList_append_own _ rfl _ _ 26 rfl w.heap.size 3 i0 (.int .i64 0) 1 8 Try.underlying26 hi hz0 hz1 hz2 rfl (by decide) _ _ _ rfl (hown.alloc _) ⟨wr.heap.size, 0, none⟩ 1 1 [.int .i64 k] rfl rfl ?c1 ?c2 ?c3 ?c4 ?c5 ?_))
        case c1 =>
          intro j u hj
          match j, hj with
          | 0, hj => simp at hj; subst hj; simp [Addr.add]
        case c2 => intro u hu; simp at hu; subst hu; rfl
        case c3 => unfold maxLen; omega
        case c4 => omega
        case c5 => simp; omega
        · intro v' w1 hown' hgrow _
          have hlt := World.ownsRow.lt hown
          have hb1 : Below w.heap.size w w1 := (hb.alloc hsz _).grown hgrow (by simp; omega) (fun b e => (hlt b e).1)
          have HO := Lib.hid hown'
          clear hown' hgrow hown
          go_wp2_with fail
          go_roundw
          case rel => exact ⟨k + 1, by omega, by go_num, by simpa [elemsTo, hin] using HO.out, hb1⟩
          case measure => simp [intOf]; omega

theorem elem_at {n : Int} {xs : List Int} (hp : RelP n xs) {k : Nat} (hk : k < xs.length) {m : Nat} (hm : m < (elems (nth xs k).toNat).length) :
    ∃ i : Nat, i < xs.length ∧ hasB (nth xs k) i = true ∧ nth (elems (nth xs k).toNat) m = (i : Int) := by
  have h1 := hp.small k hk
  have h0 := hp.pos k hk
  obtain ⟨i, hb, e⟩ := (mem_elems (by omega)).1 (nth_mem hm)
  exact ⟨i, has_lt hp hk hb, hb, e⟩
theorem at_elem {n : Int} {xs : List Int} (hp : RelP n xs) {k : Nat} (hk : k < xs.length) {j : Nat} (h : hasB (nth xs k) j = true) :
    ∃ m, m < (elems (nth xs k).toNat).length ∧ nth (elems (nth xs k).toNat) m = (j : Int) := by
  have h1 := hp.small k hk
  have h0 := hp.pos k hk
  have : (j : Int) ∈ elems (nth xs k).toNat := (mem_elems (by omega)).2 ⟨j, h, rfl⟩
  obtain ⟨m, hm, e⟩ := mem_nth this
  exact ⟨m, hm, e⟩
theorem orGood_any (n : Int) (a : Option Addr) (xs : List Int) (cap : Nat) (w : World) (hx : Rd w a xs) :
    Calls Try.prog 115 #[.agg #[.int .i64 n, .slice a xs.length cap]] w fun e w' => e = .returned (.bool (ordB n xs)) ∧ Below w.heap.size w w' := by
  have hx1 := hx.alloc (.cells #[.int .i64 n, .slice a xs.length cap] 28)
  have hlen := hx.len
  cases hr : relB n xs
  · have HR : Hid (ordB n xs = false) := by simp [Hid, ordB, hr]
    go_enter Try.func115, Try.ntmps115
    go_wp2_with fail
    refine (orRelation_any _ _ _ _ _ hx1).mono ?_
    rintro e w1 ⟨rfl, hb1⟩
    go_wp2_with fail
    go_ret
    exact ⟨ret_bool HR.out.symm, Below.trans (by repeat (first | exact Below.refl _ _ | assumption | refine Below.alloc ?_ (by first | exact Nat.le_refl _ | (simp only [World.size_alloc, World.size_setCell, World.size_drew]; omega) | omega) _ | refine Below.setCell ?_ (by first | exact Nat.le_refl _ | (simp only [World.size_alloc, World.size_setCell, World.size_drew]; omega) | omega) _ | refine Below.drew ?_)) (hb1.mono (by first | (simp only [World.size_alloc, World.size_setCell, World.size_drew]; omega) | omega))⟩
  · have hp := relB_p hr
    go_enter Try.func115, Try.ntmps115
    go_wp2_with fail
    refine (orRelation_any _ _ _ _ _ hx1).mono ?_
    rintro e w1 ⟨rfl, hb1⟩
    have B1 := (Box2.new w _ _ _).below hb1
    have ⟨z1, c1, d1⟩ := B1
    have bw1 : Below w.heap.size w w1 := Below.trans (by repeat (first | exact Below.refl _ _ | assumption | refine Below.alloc ?_ (by first | exact Nat.le_refl _ | (simp only [World.size_alloc, World.size_setCell, World.size_drew]; omega) | omega) _ | refine Below.setCell ?_ (by first | exact Nat.le_refl _ | (simp only [World.size_alloc, World.size_setCell, World.size_drew]; omega) | omega) _ | refine Below.drew ?_)) (hb1.mono (by first | (simp only [World.size_alloc, World.size_setCell, World.size_drew]; omega) | omega))
    have HR := Lib.hid hr
    clear hb1
    go_wp2_with fail
    clear hr
    go_loopw [13] (fun i wr => ∃ k : Nat, k ≤ xs.length ∧ i = .int .i64 k ∧ (∀ j, j < k → okAtB xs j = true) ∧ Below w1.heap.size w1 wr) (fun i _ => xs.length - (intOf i).toNat)
    case atStart => exact ⟨0, Nat.zero_le _, rfl, fun j hj => by omega, Below.refl _ _⟩
    case round =>
      obtain ⟨k, hk, rfl, hall, hb⟩ := hrel
      have Br := B1.below hb
      have ⟨zr, cr, dr⟩ := Br
      have bwr := bw1.trans (hb.mono bw1.size)
      have HA := Lib.hid hall
      clear hall c1 d1
      by_cases hlt : k < xs.length
      · obtain ⟨b, off, rfl, hbl, hc⟩ := (hx.below bwr).cell k hlt
        have hpk := hp.pos k hlt
        have hsk := hp.small k hlt
        have hsk' : nth xs k ≤ 9223372036854775807 := by omega
        cases hin : hasB (nth xs k) k
        · go_wp2_with fail
          refine (orHas_any _ _ _ hpk hsk' (by omega)).mono ?_
          rintro e w' ⟨rfl, rfl⟩
          go_wp2_with fail
          refine (orList_any _ _ hpk hsk).mono ?_
          rintro e w2 ⟨a2, cap2, rfl, ho2, hb2⟩
          have ⟨z2, c2, d2⟩ := Br.below hb2
          have bw2 := bwr.trans (hb2.mono bwr.size)
          have hx2 := hx.below bw2
          have hr2 := ho2.rd
          have bk2 := hb.trans (hb2.mono hb.size)
          have hel := elems_len (nth xs k).toNat
          have HI := Lib.hid hin
          clear hin cr dr hc
          obtain ⟨es, hes⟩ : ∃ es, es = elems (nth xs k).toNat := ⟨_, rfl⟩
          rw [← hes] at ho2 hr2 hel
          have HES := Lib.hid hes
          rw [← hes]
          clear hes ho2 hb2
          go_wp2_with fail
          go_loop [24] (fun i => ∃ j : Nat, j ≤ es.length ∧ i = .int .i64 j ∧ (∀ m, m < j → sub (nth xs (nth es m).toNat).toNat (nth xs k).toNat = 0)) (fun i => es.length - (intOf i).toNat)
          case atStart => exact ⟨0, Nat.zero_le _, rfl, fun m hm => by omega⟩
          case round =>
            obtain ⟨j, hj, rfl, hin2⟩ := hrel
            have HIN := Lib.hid hin2
            clear hin2
            by_cases hjl : j < es.length
            · obtain ⟨b2, off2, rfl, hbl2, hc2⟩ := hr2.cell j hjl
              obtain ⟨i, hil, hib, hie⟩ : ∃ i : Nat, i < xs.length ∧ hasB (nth xs k) i = true ∧ nth es j = (i : Int) := by
                have := elem_at hp hlt (m := j) (by rw [← HES.out]; exact hjl)
                rw [← HES.out] at this
                exact this
              obtain ⟨b3, off3, e3, hbl3, hc3⟩ := hx2.cell i hil
              simp only [Option.some.injEq, Addr.mk.injEq, and_true] at e3
              obtain ⟨rfl, rfl⟩ := e3
              have hpi := hp.pos i hil
              have hsi := hp.small i hil
              have hsub := sub_i (a := nth xs i) (b := nth xs k) hpi (by omega) hpk (by omega)
              have HB := Lib.hid hib
              have HE := Lib.hid hie
              rw [hie] at hc2
              clear hib hie
              by_cases hz : sub (nth xs i).toNat (nth xs k).toNat = 0
              · have hne : (bits BinOp.andNot IntKind.i64 (nth xs i) (nth xs k) != 0) = false := by rw [hsub, hz]; rfl
                have HZ := Lib.hid hz
                clear hz hsub
                go_wp2_with fail
                go_round
                case rel =>
                  refine ⟨j + 1, by omega, by go_num, fun m hm => ?_⟩
                  by_cases e : m = j
                  · rw [e, HE.out, Int.toNat_natCast]; exact HZ.out
                  · exact HIN.out m (by omega)
                case measure => simp [intOf]; omega
              · have hne : (bits BinOp.andNot IntKind.i64 (nth xs i) (nth xs k) != 0) = true := by rw [hsub]; simp; omega
                have HN := Lib.hid (ordB_no (n := n) hlt (okAtB_sub hil HB.out hz))
                clear hz hsub
                go_wp2_with fail
                go_ret
                exact ⟨ret_bool HN.out.symm, bw2⟩
            · obtain rfl : j = es.length := by omega
              have hok : okAtB xs k = true := by
                rw [okAtB_iff]
                refine ⟨HI.out, fun j hj hbj => ?_⟩
                obtain ⟨m, hm, e⟩ := at_elem hp hlt hbj
                rw [← HES.out] at hm e
                have := HIN.out m hm
                rwa [e, Int.toNat_natCast] at this
              have HK := Lib.hid hok
              clear hok
              go_wp2_with fail
              go_roundw
              case rel =>
                refine ⟨k + 1, by omega, by go_num, fun j hj => ?_, bk2⟩
                by_cases e : j = k
                · rw [e]; exact HK.out
                · exact HA.out j (by omega)
              case measure => simp [intOf]; omega
        · have HN := Lib.hid (ordB_no (n := n) hlt (okAtB_has hin))
          go_wp2_with fail
          refine (orHas_any _ _ _ hpk hsk' (by omega)).mono ?_
          rintro e w' ⟨rfl, rfl⟩
          go_wp2_with fail
          go_ret
          exact ⟨ret_bool HN.out.symm, bwr⟩
      · obtain rfl : k = xs.length := by omega
        go_wp2_with fail
        go_ret
        exact ⟨ret_bool (ordB_iff.2 ⟨HR.out, HA.out⟩).symm, bwr⟩

theorem ivGoodOrder_any (n : Int) (a : Option Addr) (xs : List Int) (cap : Nat) (w : World) (hx : Rd w a xs) :
    Calls Try.prog 70 #[.agg #[.int .i64 n, .slice a xs.length cap]] w fun e w' => e = .returned (.bool (isIv n xs)) ∧ Below w.heap.size w w' := by
  have hx1 := hx.alloc (.cells #[.int .i64 n, .slice a xs.length cap] 28)
  cases hr : ordB n xs
  · have H1 : Hid (isIv n xs = false) := by simp [Hid, isIv, hr]
    go_enter Try.func70, Try.ntmps70
    go_wp2_with fail
    refine (orGood_any _ _ _ _ _ hx1).mono ?_
    rw [hr]
    rintro e w1 ⟨rfl, hb1⟩
    have bw1 : Below w.heap.size w w1 := Below.trans (by repeat (first | exact Below.refl _ _ | assumption | refine Below.alloc ?_ (by first | exact Nat.le_refl _ | (simp only [World.size_alloc, World.size_setCell, World.size_drew]; omega) | omega) _ | refine Below.setCell ?_ (by first | exact Nat.le_refl _ | (simp only [World.size_alloc, World.size_setCell, World.size_drew]; omega) | omega) _ | refine Below.drew ?_)) (hb1.mono (by first | (simp only [World.size_alloc, World.size_setCell, World.size_drew]; omega) | omega))
    go_wp2_with fail
    go_ret
    exact ⟨ret_bool H1.out.symm, bw1⟩
  · have hp := ord_rel hr
    have H1 : Hid (isIv n xs = !(twoF xs).isSome) := by simp [Hid, isIv, hr]
    go_enter Try.func70, Try.ntmps70
    go_wp2_with fail
    refine (orGood_any _ _ _ _ _ hx1).mono ?_
    rw [hr]
    rintro e w1 ⟨rfl, hb1⟩
    have A1 : Box2 w1 w.heap.size (.int .i64 n) (.slice a xs.length cap) := (Box2.new w _ _ _).below hb1
    have bw1 : Below w.heap.size w w1 := Below.trans (by repeat (first | exact Below.refl _ _ | assumption | refine Below.alloc ?_ (by first | exact Nat.le_refl _ | (simp only [World.size_alloc, World.size_setCell, World.size_drew]; omega) | omega) _ | refine Below.setCell ?_ (by first | exact Nat.le_refl _ | (simp only [World.size_alloc, World.size_setCell, World.size_drew]; omega) | omega) _ | refine Below.drew ?_)) (hb1.mono (by first | (simp only [World.size_alloc, World.size_setCell, World.size_drew]; omega) | omega))
    have ⟨zA, cA, dA⟩ := A1
    clear hb1 hr
    go_wp2_with fail
    refine (ivIs_any _ _ _ _ _ (hx.below bw1) hp).mono ?_
    rintro e w2 ⟨rfl, hb2⟩
    go_wp2_with fail
    go_ret
    exact ⟨ret_bool (by rw [H1.out]; cases twoF xs <;> rfl), bw1.trans (hb2.mono bw1.size)⟩

theorem ivEnds_any (n : Int) (a : Option Addr) (xs : List Int) (cap : Nat) (w : World) (hx : Rd w a xs) (ho : ordB n xs = true) :
    Calls Try.prog 71 #[.agg #[.int .i64 n, .slice a xs.length cap]] w fun e w' => ∃ a' cap', e = .returned (.slice a' xs.length cap') ∧ OwnV w' w.heap.size (.slice a' xs.length cap') xs.length (endp xs xs.length) ∧ Below w.heap.size w w' := by
  have hx1 := hx.alloc (.cells #[.int .i64 n, .slice a xs.length cap] 28)
  obtain ⟨i0, hi, hz0, hz1, hz2⟩ := info_parts infoIv
  have hp := ord_rel ho
  have HO := Lib.hid ho
  obtain rfl : n = (xs.length : Int) := hp.len.symm
  have hl10 : xs.length ≤ 10 := by have := hp.n1; omega
  clear ho
  go_enter Try.func71, Try.ntmps71
  go_wp2_with fail
  refine (ivLevels_any _ _ _ _ _ hx1 hp).mono ?_
  rintro e w1 ⟨a1, cap1, rfl, ho1, hb1⟩
  have A1 : Box2 w1 w.heap.size (.int .i64 (xs.length : Int)) (.slice a xs.length cap) := (Box2.new w _ _ _).below hb1
  have bw1 : Below w.heap.size w w1 := Below.trans (by repeat (first | exact Below.refl _ _ | assumption | refine Below.alloc ?_ (by first | exact Nat.le_refl _ | (simp only [World.size_alloc, World.size_setCell, World.size_drew]; omega) | omega) _ | refine Below.setCell ?_ (by first | exact Nat.le_refl _ | (simp only [World.size_alloc, World.size_setCell, World.size_drew]; omega) | omega) _ | refine Below.drew ?_)) (hb1.mono (by first | (simp only [World.size_alloc, World.size_setCell, World.size_drew]; omega) | omega))
  have hrl : Rd w1 a1 (levs xs xs.length) := ho1.rd
  clear hb1 ho1
  go_wp2_with fail
  go_loopw [4, 14] (fun v i wr => ∃ k : Nat, k ≤ xs.length ∧ i = .int .i64 k ∧ OwnV wr w1.heap.size v k (endp xs k) ∧ Below w1.heap.size w1 wr) (fun _ i _ => xs.length - (intOf i).toNat)
  case atStart => exact ⟨0, Nat.zero_le _, rfl, OwnV.nil _ _, Below.refl _ _⟩
  case round =>
    obtain ⟨k, hk, rfl, hown, hb⟩ := hrel
    obtain ⟨av, cv, rfl⟩ := hown.form
    obtain ⟨wo, rfl⟩ : ∃ wo : World, wo = wr := ⟨_, rfl⟩
    have hzr := hb.size
    by_cases hlt : k < xs.length
    · obtain ⟨b, off, rfl, hbl, hck⟩ := (hrl.below hb).cell k (by rw [levs_len]; exact hlt)
      rw [levs_nth xs hlt] at hck
      have ⟨l0, l1⟩ := lv_bd xs k
      go_wp2_with fail
      go_loopw [24] (fun i' wi => ∃ j : Nat, j ≤ xs.length ∧ i' = .int .i64 j ∧ Var2 wi wo.heap.size (.int .i64 (lv xs k)) (.int .i64 (rtTo (lv xs k) xs k j)) ∧ Below wo.heap.size wo wi) (fun i _ => xs.length - (intOf i).toNat)
      case atStart => exact ⟨0, Nat.zero_le _, rfl, Var2.new wo _ _ _, (by repeat (first | exact Below.refl _ _ | assumption | refine Below.alloc ?_ (by first | exact Nat.le_refl _ | (simp only [World.size_alloc, World.size_setCell, World.size_drew]; omega) | omega) _ | refine Below.setCell ?_ (by first | exact Nat.le_refl _ | (simp only [World.size_alloc, World.size_setCell, World.size_drew]; omega) | omega) _ | refine Below.drew ?_))⟩
      case round =>
        obtain ⟨j, hj, rfl, hV, hbj⟩ := hrel
        have ⟨⟨zV, cV, dV⟩, fV, gV⟩ := hV
        have bj := hb.trans (hbj.mono hb.size)
        have hzj := hbj.size
        by_cases hjl : j < xs.length
        · obtain ⟨b2, off2, e2, hbl2, hcj⟩ := (hrl.below bj).cell j (by rw [levs_len]; exact hjl)
          simp only [Option.some.injEq, Addr.mk.injEq, and_true] at e2
          obtain ⟨rfl, rfl⟩ := e2
          rw [levs_nth xs hjl] at hcj
          have hAj := A1.below bj
          have ⟨zA, cA, dA⟩ := hAj
          obtain ⟨b3, off3, rfl, hbl3, hc3⟩ := (hx.below (bw1.trans (bj.mono bw1.size))).cell k hlt
          have s0 := hp.pos k hlt
          have s2 : nth xs k ≤ 9223372036854775807 := by have := hp.small k hlt; omega
          have j0 : (0 : Int) ≤ (j : Int) := by omega
          have j1 : (j : Int) < (xs.length : Int) := by omega
          have k0 : (0 : Int) ≤ (k : Int) := by omega
          have k1 : (k : Int) < (xs.length : Int) := by omega
          cases hhas : hasB (nth xs k) j
          · have HM := Lib.hid (rtTo_no (st := lv xs k) hhas)
            go_wp2_with (first | (go_at_call 118; refine (orHas_any _ _ _ (by assumption) (by assumption) (by assumption)).mono ?_; rintro e w' ⟨rfl, rfl⟩) | (go_at_call 119; refine (l1Most_any _ _ _).mono ?_; rintro e w' ⟨rfl, rfl⟩))
            go_roundw
            case rel => exact ⟨j + 1, by omega, by go_num, by rw [HM.out]; exact hV.set1 _, hbj.setCell (p := ⟨wo.heap.size, 1, none⟩) (Nat.le_refl _) _⟩
            case measure => simp [intOf]; omega
          · have HM : Hid (rtTo (lv xs k) xs k (j + 1) = rtTo (lv xs k) xs k j) := by rw [Hid, rtTo, if_pos hhas]
            go_wp2_with (go_at_call 118; refine (orHas_any _ _ _ (by assumption) (by assumption) (by assumption)).mono ?_; rintro e w' ⟨rfl, rfl⟩)
            go_roundw
            case rel => exact ⟨j + 1, by omega, by go_num, by rw [HM.out]; exact hV, hbj⟩
            case measure => simp [intOf]; omega
        · obtain rfl : j = xs.length := by omega
          have o2 := hown.below hbj (Nat.le_refl _)
          have HE := Lib.hid (rtE_own HO.out hlt)
          rw [HE.out] at dV
          go_wp2_with (at_builtin; refine wpList_append_own _ rfl _ _ 24 rfl w1.heap.size 40 i0 (.agg #[.int .i64 0, .int .i64 0]) 2 16 Try.underlying24 hi hz0 hz1 hz2 rfl (by decide) (.slice av k cv) k ((endp xs k).map (Value.int .i64)) rfl (o2.alloc (.cells #[.int .i64 (lv xs k), .int .i64 (rtE xs k)] 40)) ⟨wr.heap.size, 0, none⟩ 1 1 [.int .i64 (lv xs k), .int .i64 (rtE xs k)] rfl rfl (cell_two_new _ _ _ _) (two_one _ _) (by unfold maxLen; omega) (by omega) (by simp; omega) ?_)
          intro v' w6 hown6 hgrow _
          have hg2 := grown_alloc_set hgrow
          have o6 : OwnV w6 w1.heap.size v' (k + 1) (endp xs (k + 1)) := by
            unfold OwnV endp
            rw [prs_succ, List.map_append]
            exact hown6
          have hU := o2.lt
          have bw6 := bj.trans (below_of_grown hg2 (fun c e => by have := hU c e; omega) bj.size)
          clear hown6 hgrow hU cV dV fV gV
          go_wp2_with fail
          go_roundw
          case rel => exact ⟨k + 1, by omega, by go_num, o6, bw6⟩
          case measure => simp [intOf]; omega
    · obtain rfl : k = xs.length := by omega
      go_wp2_with fail
      go_ret
      exact ⟨av, cv, rfl, hown.mono bw1.size, bw1.trans (hb.mono bw1.size)⟩

theorem rd_two (w : World) (x y : Int) (t : TypeId) : Rd (w.alloc (.cells #[.int .i64 x, .int .i64 y] t)) (some ⟨w.heap.size, 0, none⟩) [x, y] :=
  ⟨by simp, fun k hk => ⟨w.heap.size, 0, rfl, by simp, by
    rcases k with _ | _ | k
    · simp [nth]
    · simp [nth]
    · simp at hk; omega⟩⟩
theorem sInsert_any (n : Int) (a : Option Addr) (xs : List Int) (cap : Nat) (x y : Int) (w : World) (hn : -9223372036854775808 ≤ n ∧ n ≤ 9223372036854775807) (hx : Rd w a xs) :
    Calls Try.prog 25 #[.agg #[.int .i64 n, .slice a xs.length cap], .agg #[.int .i64 x, .int .i64 y]] w (GotO w (insN n xs x y) (insL n xs x y) (insB n xs x y)) := by
  have hx1 := ((hx.alloc (.cells #[.int .i64 n, .slice a xs.length cap] 28)).alloc (.cells #[.int .i64 x, .int .i64 y] 40)).alloc (.cells #[.int .i64 0, .slice none 0 0] 28)
  obtain ⟨i0, hi, hz0, hz1, hz2⟩ := info_parts infoIv
  cases hr : isIv n xs
  · have hib : insB n xs x y = false := by simp [insB, hr]
    have H3 : Hid (insN n xs x y = 0) := by simp [Hid, insN, hib]
    have H4 : Hid (insL n xs x y = []) := by simp [Hid, insL, hib]
    have HI := Lib.hid hib
    have HR := Lib.hid hr
    clear hr hib
    go_enter Try.func25, Try.ntmps25
    go_wp2_with fail
    refine (ivGoodOrder_any _ _ _ _ _ hx1).mono ?_
    rw [HR.out]
    rintro e w1 ⟨rfl, hb1⟩
    have R1 : Var2 w1 (w.heap.size + 2) (.int .i64 0) (.slice none 0 0) := by
      have := (Var2.new ((w.alloc (.cells #[.int .i64 n, .slice a xs.length cap] 28)).alloc (.cells #[.int .i64 x, .int .i64 y] 40)) (.int .i64 0) (.slice none 0 0) 28).below hb1
      simpa using this
    have ⟨⟨zR, cR, dR⟩, fR, gR⟩ := R1
    have bw1 : Below w.heap.size w w1 := Below.trans (by repeat (first | exact Below.refl _ _ | assumption | refine Below.alloc ?_ (by first | exact Nat.le_refl _ | (simp only [World.size_alloc, World.size_setCell, World.size_drew]; omega) | omega) _ | refine Below.setCell ?_ (by first | exact Nat.le_refl _ | (simp only [World.size_alloc, World.size_setCell, World.size_drew]; omega) | omega) _ | refine Below.drew ?_)) (hb1.mono (by first | (simp only [World.size_alloc, World.size_setCell, World.size_drew]; omega) | omega))
    clear hb1
    go_wp2_with fail
    have R3 := R1.set (.int .i64 0) (.slice none 0 0)
    refine bodyPost_ret (v := .tuple #[.agg #[.int .i64 0, .slice none 0 0], .bool false]) (by have ⟨⟨_, q1, q2⟩, _, _⟩ := R3; simp [results, Try.results25, go_sem, q1, q2]) rfl ?_
    refine ⟨none, 0, ?_, ?_, ?_⟩
    · rw [H3.out, H4.out, HI.out]; rfl
    · rw [H4.out]; exact OwnI.nil _ _
    · exact (bw1.setCell (p := ⟨w.heap.size + 2, 0, none⟩) (show w.heap.size ≤ w.heap.size + 2 by omega) _).setCell (p := ⟨w.heap.size + 2, 1, none⟩) (show w.heap.size ≤ w.heap.size + 2 by omega) _
  · have hio := isIv_ord hr
    have hp := ord_rel hio
    have h10 : xs.length ≤ 10 := by have := hp.len; have := hp.n1; omega
    obtain rfl : n = (xs.length : Int) := hp.len.symm
    have HR := Lib.hid hr
    have HIO := Lib.hid hio
    cases hw : wrongB x y
    · by_cases hlt : xs.length < 10
      · have hib : insB (xs.length : Int) xs x y = true := by simp [insB, hr, hw, hlt]
        have H3 : Hid (insN (xs.length : Int) xs x y = (xs.length : Int) + 1) := by simp [Hid, insN, hib]
        have H4 : Hid (insL (xs.length : Int) xs x y = ivo (insC xs x y) (xs.length + 1) (xs.length + 1)) := by simp [Hid, insL, hib]
        have HG : Hid (goodV [x, y] 1 = true) := by rw [Hid, good_one, hw]; rfl
        have HN : Hid (((xs.length : Int) == 10) = false) := by simp [Hid]; omega
        have HC : Hid (insC xs x y = endp xs xs.length ++ [x, y]) := rfl
        have HCL := Lib.hid (insC_len xs x y)
        have HI := Lib.hid hib
        clear hr hib hio hp hw
        go_enter Try.func25, Try.ntmps25
        go_wp2_with fail
        refine (ivGoodOrder_any _ _ _ _ _ hx1).mono ?_
        rw [HR.out]
        rintro e w1 ⟨rfl, hb1⟩
        have A1 : Box2 w1 w.heap.size (.int .i64 (xs.length : Int)) (.slice a xs.length cap) := by
          have := ((Box2.new w (.int .i64 (xs.length : Int)) (.slice a xs.length cap) 28).below (((Below.refl _ _).alloc (Nat.le_refl _) (.cells #[.int .i64 x, .int .i64 y] 40)).alloc (by simp) (.cells #[.int .i64 0, .slice none 0 0] 28))).below hb1
          simpa using this
        have I1 : Box2 w1 (w.heap.size + 1) (.int .i64 x) (.int .i64 y) := by
          have := ((Box2.new (w.alloc (.cells #[.int .i64 (xs.length : Int), .slice a xs.length cap] 28)) (.int .i64 x) (.int .i64 y) 40).below ((Below.refl _ _).alloc (Nat.le_refl _) (.cells #[.int .i64 0, .slice none 0 0] 28))).below hb1
          simpa using this
        have R1 : Var2 w1 (w.heap.size + 2) (.int .i64 0) (.slice none 0 0) := by
          have := (Var2.new ((w.alloc (.cells #[.int .i64 (xs.length : Int), .slice a xs.length cap] 28)).alloc (.cells #[.int .i64 x, .int .i64 y] 40)) (.int .i64 0) (.slice none 0 0) 28).below hb1
          simpa using this
        have ⟨zI, cI, dI⟩ := I1
        have ⟨zA, cA, dA⟩ := A1
        have bw1 : Below w.heap.size w w1 := Below.trans (by repeat (first | exact Below.refl _ _ | assumption | refine Below.alloc ?_ (by first | exact Nat.le_refl _ | (simp only [World.size_alloc, World.size_setCell, World.size_drew]; omega) | omega) _ | refine Below.setCell ?_ (by first | exact Nat.le_refl _ | (simp only [World.size_alloc, World.size_setCell, World.size_drew]; omega) | omega) _ | refine Below.drew ?_)) (hb1.mono (by first | (simp only [World.size_alloc, World.size_setCell, World.size_drew]; omega) | omega))
        have hz1' := bw1.size
        clear hb1
        have hc1 := HN.out
        have rN : Rd (w1.alloc (.cells #[.int .i64 x, .int .i64 y] 40)) (some ⟨w1.heap.size, 0, none⟩) [x, y] := rd_two _ _ _ _
        go_wp2_with fail
        refine (ivGood_any _ [x, y] 1 _ _ rN rfl (by omega)).mono ?_
        rw [HG.out]
        rintro e w2 ⟨rfl, hb2⟩
        have ht2 : Below w1.heap.size w1 w2 := Below.trans (by repeat (first | exact Below.refl _ _ | assumption | refine Below.alloc ?_ (by first | exact Nat.le_refl _ | (simp only [World.size_alloc, World.size_setCell, World.size_drew]; omega) | omega) _ | refine Below.setCell ?_ (by first | exact Nat.le_refl _ | (simp only [World.size_alloc, World.size_setCell, World.size_drew]; omega) | omega) _ | refine Below.drew ?_)) (hb2.mono (by first | (simp only [World.size_alloc, World.size_setCell, World.size_drew]; omega) | omega))
        have A2 := A1.below ht2
        have I2 := I1.below ht2
        have R2 := R1.below ht2
        have bw2 := bw1.trans (ht2.mono hz1')
        have ⟨zA2, cA2, dA2⟩ := A2
        have ⟨zI2, cI2, dI2⟩ := I2
        have ⟨⟨zR, cR, dR⟩, fR, gR⟩ := R2
        clear zA cA dA zI cI dI A1 I1 R1 hb2 ht2 rN
        clear hx1
        go_wp2_with fail
        go_region_law (first | (have _g := o4; go_simp; go_at_call 65; refine (ivOrder_any _ _ _ _ _ (o4.rd (by omega)) HCL.out (by omega)).mono ?_; rintro e w5 ⟨p5, q5, rfl, o5, hb5⟩; have R5 := R4.below hb5; have ⟨⟨zR5, cR5, dR5⟩, fR5, gR5⟩ := R5; have hzR4 := R4.1.1; have bw5 := bw4.trans (hb5.mono bw4.size)) | (have _g := NW; refine step_append_lies _ (by rfl) _ _ _ (by rfl) (w.heap.size + 3) 40 i0 (.agg #[.int .i64 0, .int .i64 0]) 2 16 Try.underlying24 hi hz0 hz1 hz2 rfl (by omega) (.slice p3 xs.length q3) xs.length ((endp xs xs.length).map (Value.int .i64)) (by rfl) (by first | exact o3m | exact o3m.below (Below.refl _ _).drew (Nat.le_refl _)) ⟨w2.heap.size, 0, none⟩ 1 1 [.int .i64 x, .int .i64 y] (by rfl) (by rfl) (by exact NW) (two_one _ _) (by omega) (by unfold maxLen; omega) (by omega) (by first | omega | (simp; omega)) w3.heap.size (by rfl) ?_; intro gg cap4 w4 hown4 hgrow hat hlt4; have hg2 : w3.grownBy w4 (Value.slice p3 xs.length q3).ownBlock := ⟨hgrow.os, hgrow.tape, hgrow.output, hgrow.size, hgrow.block⟩; have o4 : OwnV w4 (w.heap.size + 3) (.slice (some ⟨gg, 0, none⟩) (xs.length + 1) cap4) (xs.length + 1) (insC xs x y) := (by rw [HC.out]; unfold OwnV; rw [List.map_append]; exact hown4); have R4 := R3.kept hg2 (ne_own (fun c e => by have := o3m.lt c e; omega)); have bw4 := bw3.trans (below_of_grown hg2 (fun c e => by have := o3m.lt c e; omega) bw3.size); have z4 := bw4.size) | (have _g := o3m; refine step_append_lies _ (by rfl) _ _ _ (by rfl) (w.heap.size + 3) 40 i0 (.agg #[.int .i64 0, .int .i64 0]) 2 16 Try.underlying24 hi hz0 hz1 hz2 rfl (by omega) (.slice p3 xs.length q3) xs.length ((endp xs xs.length).map (Value.int .i64)) (by rfl) (by first | exact o3m.alloc (.cells #[.int .i64 x, .int .i64 y] 40) | exact (o3m.alloc (.cells #[.int .i64 x, .int .i64 y] 40)).below (Below.refl _ _).drew (Nat.le_refl _)) ⟨w3.heap.size, 0, none⟩ 1 1 [.int .i64 x, .int .i64 y] (by rfl) (by rfl) (cell_two_new _ _ _ _) (two_one _ _) (by omega) (by unfold maxLen; omega) (by omega) (by simp; omega) (w3.heap.size + 1) (by simp) ?_; intro gg cap4 w4 hown4 hgrow hat hlt4; have hg2 : w3.grownBy w4 (Value.slice p3 xs.length q3).ownBlock := (by first | exact grown_alloc_set hgrow | exact grown_alloc_set (o := (.cells #[.int .i64 x, .int .i64 y] 40)) ⟨hgrow.os, hgrow.tape, hgrow.output, hgrow.size, hgrow.block⟩); have o4 : OwnV w4 (w.heap.size + 3) (.slice (some ⟨gg, 0, none⟩) (xs.length + 1) cap4) (xs.length + 1) (insC xs x y) := (by rw [HC.out]; unfold OwnV; rw [List.map_append]; exact hown4); have R4 := R3.kept hg2 (ne_own (fun c e => by have := o3m.lt c e; omega)); have bw4 := bw3.trans (below_of_grown hg2 (fun c e => by have := o3m.lt c e; omega) bw3.size); have z4 := bw4.size) | (go_simp; go_at_call 71; refine (ivEnds_any _ _ _ _ _ (hx.below (bw2.drew)) HIO.out).mono ?_; rintro e w3 ⟨p3, q3, rfl, o3, hb3⟩; have ht3 : Below w2.heap.size w2 w3 := Below.trans (Below.refl _ w2).drew (hb3.mono (Nat.le_refl _)); have I3 := I2.below ht3; have ⟨zI3, cI3, dI3⟩ := I3; have R3 := R2.below ht3; have bw3 := bw2.trans (ht3.mono bw2.size); have z3 := ht3.size; have o3m : OwnV w3 (w.heap.size + 3) (.slice p3 xs.length q3) xs.length (endp xs xs.length) := o3.mono (show w.heap.size + 3 ≤ w2.heap.size by omega)) | (go_simp; go_at_call 71; refine (ivEnds_any _ _ _ _ _ (hx.below ((bw2.alloc bw2.size _).drew)) HIO.out).mono ?_; rintro e w3 ⟨p3, q3, rfl, o3, hb3⟩; have ht3 : Below w2.heap.size w2 w3 := Below.trans (((Below.refl _ w2).alloc (Nat.le_refl _) (.cells #[.int .i64 x, .int .i64 y] 40)).drew) (hb3.mono (by simp)); have I3 := I2.below ht3; have ⟨zI3, cI3, dI3⟩ := I3; have R3 := R2.below ht3; have bw3 := bw2.trans (ht3.mono bw2.size); have z3 := ht3.size; have o3m : OwnV w3 (w.heap.size + 3) (.slice p3 xs.length q3) xs.length (endp xs xs.length) := (o3.mono (by simp; omega)); have NW : ∀ j u, [Value.int .i64 x, .int .i64 y][j]? = some u → w3.cell? ((⟨w2.heap.size, 0, none⟩ : Addr).add j) = some u := (fun j u hj => (hb3.cell (by unfold Addr.add; split <;> simp)).trans (cell_two_new w2 _ _ _ j u hj))))
        all_goals
          have R6 := R5.set (.int .i64 ((xs.length : Int) + 1)) (.slice p5 (xs.length + 1) q5)
          go_wp2_with fail
          refine bodyPost_ret (v := .tuple #[.agg #[.int .i64 ((xs.length : Int) + 1), .slice p5 (xs.length + 1) q5], .bool true]) (by have ⟨⟨_, q1, q2⟩, _, _⟩ := R6; simp [results, Try.results25, go_sem, q1, q2]) rfl ?_
          refine ⟨p5, q5, ?_, ?_, ?_⟩
          · rw [H3.out, H4.out, HI.out, ivo_len]
          · rw [H4.out, ivo_len]
            exact ((o5.setBelow (p := ⟨w.heap.size + 2, 0, none⟩) (show w.heap.size + 2 < w4.heap.size by omega) _).setBelow (p := ⟨w.heap.size + 2, 1, none⟩) (show w.heap.size + 2 < w4.heap.size by omega) _).mono (show w.heap.size ≤ w4.heap.size by omega)
          · exact (bw5.setCell (p := ⟨w.heap.size + 2, 0, none⟩) (show w.heap.size ≤ w.heap.size + 2 by omega) _).setCell (p := ⟨w.heap.size + 2, 1, none⟩) (show w.heap.size ≤ w.heap.size + 2 by omega) _
      · have h10' : xs.length = 10 := by omega
        have hc1 : ((xs.length : Int) == 10) = true := by simp [h10']; try omega
        have hib : insB (xs.length : Int) xs x y = false := by simp [insB, hr, hw, hlt]
        have H3 : Hid (insN (xs.length : Int) xs x y = 0) := by simp [Hid, insN, hib]
        have H4 : Hid (insL (xs.length : Int) xs x y = []) := by simp [Hid, insL, hib]
        have HI := Lib.hid hib
        have HG : Hid (goodV [x, y] 1 = true) := by rw [Hid, good_one, hw]; rfl
        clear hr hib hio hp hw h10'
        go_enter Try.func25, Try.ntmps25
        go_wp2_with fail
        refine (ivGoodOrder_any _ _ _ _ _ hx1).mono ?_
        rw [HR.out]
        rintro e w1 ⟨rfl, hb1⟩
        have A1 : Box2 w1 w.heap.size (.int .i64 (xs.length : Int)) (.slice a xs.length cap) := by
          have := ((Box2.new w (.int .i64 (xs.length : Int)) (.slice a xs.length cap) 28).below (((Below.refl _ _).alloc (Nat.le_refl _) (.cells #[.int .i64 x, .int .i64 y] 40)).alloc (by simp) (.cells #[.int .i64 0, .slice none 0 0] 28))).below hb1
          simpa using this
        have I1 : Box2 w1 (w.heap.size + 1) (.int .i64 x) (.int .i64 y) := by
          have := ((Box2.new (w.alloc (.cells #[.int .i64 (xs.length : Int), .slice a xs.length cap] 28)) (.int .i64 x) (.int .i64 y) 40).below ((Below.refl _ _).alloc (Nat.le_refl _) (.cells #[.int .i64 0, .slice none 0 0] 28))).below hb1
          simpa using this
        have R1 : Var2 w1 (w.heap.size + 2) (.int .i64 0) (.slice none 0 0) := by
          have := (Var2.new ((w.alloc (.cells #[.int .i64 (xs.length : Int), .slice a xs.length cap] 28)).alloc (.cells #[.int .i64 x, .int .i64 y] 40)) (.int .i64 0) (.slice none 0 0) 28).below hb1
          simpa using this
        have ⟨zI, cI, dI⟩ := I1
        have ⟨zA, cA, dA⟩ := A1
        have bw1 : Below w.heap.size w w1 := Below.trans (by repeat (first | exact Below.refl _ _ | assumption | refine Below.alloc ?_ (by first | exact Nat.le_refl _ | (simp only [World.size_alloc, World.size_setCell, World.size_drew]; omega) | omega) _ | refine Below.setCell ?_ (by first | exact Nat.le_refl _ | (simp only [World.size_alloc, World.size_setCell, World.size_drew]; omega) | omega) _ | refine Below.drew ?_)) (hb1.mono (by first | (simp only [World.size_alloc, World.size_setCell, World.size_drew]; omega) | omega))
        have hz1' := bw1.size
        clear hb1
        have rN : Rd (w1.alloc (.cells #[.int .i64 x, .int .i64 y] 40)) (some ⟨w1.heap.size, 0, none⟩) [x, y] := rd_two _ _ _ _
        go_wp2_with fail
        refine (ivGood_any _ [x, y] 1 _ _ rN rfl (by omega)).mono ?_
        rw [HG.out]
        rintro e w2 ⟨rfl, hb2⟩
        have ht2 : Below w1.heap.size w1 w2 := Below.trans (by repeat (first | exact Below.refl _ _ | assumption | refine Below.alloc ?_ (by first | exact Nat.le_refl _ | (simp only [World.size_alloc, World.size_setCell, World.size_drew]; omega) | omega) _ | refine Below.setCell ?_ (by first | exact Nat.le_refl _ | (simp only [World.size_alloc, World.size_setCell, World.size_drew]; omega) | omega) _ | refine Below.drew ?_)) (hb2.mono (by first | (simp only [World.size_alloc, World.size_setCell, World.size_drew]; omega) | omega))
        have A2 := A1.below ht2
        have R2 := R1.below ht2
        have bw2 := bw1.trans (ht2.mono hz1')
        have ⟨zA2, cA2, dA2⟩ := A2
        have ⟨⟨zR, cR, dR⟩, fR, gR⟩ := R2
        clear zA cA dA zI cI dI A1 I1 R1 hb2 ht2 rN
        go_wp2_with fail
        have R3 := R2.set (.int .i64 0) (.slice none 0 0)
        refine bodyPost_ret (v := .tuple #[.agg #[.int .i64 0, .slice none 0 0], .bool false]) (by have ⟨⟨_, q1, q2⟩, _, _⟩ := R3; simp [results, Try.results25, go_sem, q1, q2]) rfl ?_
        refine ⟨none, 0, ?_, ?_, ?_⟩
        · rw [H3.out, H4.out, HI.out]; rfl
        · rw [H4.out]; exact OwnI.nil _ _
        · exact (bw2.setCell (p := ⟨w.heap.size + 2, 0, none⟩) (show w.heap.size ≤ w.heap.size + 2 by omega) _).setCell (p := ⟨w.heap.size + 2, 1, none⟩) (show w.heap.size ≤ w.heap.size + 2 by omega) _
    · have hib : insB (xs.length : Int) xs x y = false := by simp [insB, hr, hw]
      have H3 : Hid (insN (xs.length : Int) xs x y = 0) := by simp [Hid, insN, hib]
      have H4 : Hid (insL (xs.length : Int) xs x y = []) := by simp [Hid, insL, hib]
      have HI := Lib.hid hib
      have HG : Hid (goodV [x, y] 1 = false) := by rw [Hid, good_one, hw]; rfl
      clear hr hib hio hp hw
      go_enter Try.func25, Try.ntmps25
      go_wp2_with fail
      refine (ivGoodOrder_any _ _ _ _ _ hx1).mono ?_
      rw [HR.out]
      rintro e w1 ⟨rfl, hb1⟩
      have A1 : Box2 w1 w.heap.size (.int .i64 (xs.length : Int)) (.slice a xs.length cap) := by
        have := ((Box2.new w (.int .i64 (xs.length : Int)) (.slice a xs.length cap) 28).below (((Below.refl _ _).alloc (Nat.le_refl _) (.cells #[.int .i64 x, .int .i64 y] 40)).alloc (by simp) (.cells #[.int .i64 0, .slice none 0 0] 28))).below hb1
        simpa using this
      have I1 : Box2 w1 (w.heap.size + 1) (.int .i64 x) (.int .i64 y) := by
        have := ((Box2.new (w.alloc (.cells #[.int .i64 (xs.length : Int), .slice a xs.length cap] 28)) (.int .i64 x) (.int .i64 y) 40).below ((Below.refl _ _).alloc (Nat.le_refl _) (.cells #[.int .i64 0, .slice none 0 0] 28))).below hb1
        simpa using this
      have R1 : Var2 w1 (w.heap.size + 2) (.int .i64 0) (.slice none 0 0) := by
        have := (Var2.new ((w.alloc (.cells #[.int .i64 (xs.length : Int), .slice a xs.length cap] 28)).alloc (.cells #[.int .i64 x, .int .i64 y] 40)) (.int .i64 0) (.slice none 0 0) 28).below hb1
        simpa using this
      have ⟨zI, cI, dI⟩ := I1
      have ⟨zA, cA, dA⟩ := A1
      have bw1 : Below w.heap.size w w1 := Below.trans (by repeat (first | exact Below.refl _ _ | assumption | refine Below.alloc ?_ (by first | exact Nat.le_refl _ | (simp only [World.size_alloc, World.size_setCell, World.size_drew]; omega) | omega) _ | refine Below.setCell ?_ (by first | exact Nat.le_refl _ | (simp only [World.size_alloc, World.size_setCell, World.size_drew]; omega) | omega) _ | refine Below.drew ?_)) (hb1.mono (by first | (simp only [World.size_alloc, World.size_setCell, World.size_drew]; omega) | omega))
      have hz1' := bw1.size
      clear hb1
      have rN : Rd (w1.alloc (.cells #[.int .i64 x, .int .i64 y] 40)) (some ⟨w1.heap.size, 0, none⟩) [x, y] := rd_two _ _ _ _
      go_wp2_with fail
      refine (ivGood_any _ [x, y] 1 _ _ rN rfl (by omega)).mono ?_
      rw [HG.out]
      rintro e w2 ⟨rfl, hb2⟩
      have ht2 : Below w1.heap.size w1 w2 := Below.trans (by repeat (first | exact Below.refl _ _ | assumption | refine Below.alloc ?_ (by first | exact Nat.le_refl _ | (simp only [World.size_alloc, World.size_setCell, World.size_drew]; omega) | omega) _ | refine Below.setCell ?_ (by first | exact Nat.le_refl _ | (simp only [World.size_alloc, World.size_setCell, World.size_drew]; omega) | omega) _ | refine Below.drew ?_)) (hb2.mono (by first | (simp only [World.size_alloc, World.size_setCell, World.size_drew]; omega) | omega))
      have A2 := A1.below ht2
      have R2 := R1.below ht2
      have bw2 := bw1.trans (ht2.mono hz1')
      have ⟨zA2, cA2, dA2⟩ := A2
      have ⟨⟨zR, cR, dR⟩, fR, gR⟩ := R2
      clear zA cA dA zI cI dI A1 I1 R1 hb2 ht2 rN
      go_wp2_with fail
      have R3 := R2.set (.int .i64 0) (.slice none 0 0)
      refine bodyPost_ret (v := .tuple #[.agg #[.int .i64 0, .slice none 0 0], .bool false]) (by have ⟨⟨_, q1, q2⟩, _, _⟩ := R3; simp [results, Try.results25, go_sem, q1, q2]) rfl ?_
      refine ⟨none, 0, ?_, ?_, ?_⟩
      · rw [H3.out, H4.out, HI.out]; rfl
      · rw [H4.out]; exact OwnI.nil _ _
      · exact (bw2.setCell (p := ⟨w.heap.size + 2, 0, none⟩) (show w.heap.size ≤ w.heap.size + 2 by omega) _).setCell (p := ⟨w.heap.size + 2, 1, none⟩) (show w.heap.size ≤ w.heap.size + 2 by omega) _

def okP (n : Int) (xs es : List Int) : Bool := relB n xs && incB n es
def parN (n : Int) (xs es : List Int) : Int := if okP n xs es then (es.length : Int) else 0
def parL (n : Int) (xs es : List Int) : List Int := if okP n xs es then parts xs es es.length else []
theorem parL_len (n : Int) (xs es : List Int) : (parL n xs es).length ≤ 1048576 := by
  unfold parL
  split
  · rename_i h
    simp only [okP, Bool.and_eq_true] at h
    have hp := relB_p h.1
    have := inc_len h.2 hp.n0
    have := hp.n1
    rw [parts_len]
    omega
  · simp

theorem isElement_any (n : Int) (a : Option Addr) (len cap : Nat) (i : Int) (w : World) :
    Calls Try.prog 124 #[.agg #[.int .i64 n, .slice a len cap], .int .i64 i] w fun e w' => e = .returned (.bool (elemB i n)) ∧ Below w.heap.size w w' := by
  by_cases h0 : 0 ≤ i
  · by_cases h1 : i < n
    · have H := Lib.hid (elemB_iff.2 ⟨h0, h1⟩)
      go_enter Try.func124, Try.ntmps124
      go_wp2
      go_ret
      exact ⟨ret_bool (by rw [H.out]; try simp [h1]), (by repeat (first | exact Below.refl _ _ | assumption | refine Below.alloc ?_ (by first | exact Nat.le_refl _ | (simp only [World.size_alloc, World.size_setCell, World.size_drew]; omega) | omega) _ | refine Below.setCell ?_ (by first | exact Nat.le_refl _ | (simp only [World.size_alloc, World.size_setCell, World.size_drew]; omega) | omega) _ | refine Below.drew ?_))⟩
    · have H := Lib.hid (elemB_no.2 (.inr (show n ≤ i by omega)))
      go_enter Try.func124, Try.ntmps124
      go_wp2
      go_ret
      exact ⟨ret_bool (by rw [H.out]; try simp [h1]), (by repeat (first | exact Below.refl _ _ | assumption | refine Below.alloc ?_ (by first | exact Nat.le_refl _ | (simp only [World.size_alloc, World.size_setCell, World.size_drew]; omega) | omega) _ | refine Below.setCell ?_ (by first | exact Nat.le_refl _ | (simp only [World.size_alloc, World.size_setCell, World.size_drew]; omega) | omega) _ | refine Below.drew ?_))⟩
  · have H := Lib.hid (elemB_no (n := n).2 (.inl (show i < 0 by omega)))
    go_enter Try.func124, Try.ntmps124
    go_wp2
    go_ret
    exact ⟨ret_bool (by rw [H.out]), (by repeat (first | exact Below.refl _ _ | assumption | refine Below.alloc ?_ (by first | exact Nat.le_refl _ | (simp only [World.size_alloc, World.size_setCell, World.size_drew]; omega) | omega) _ | refine Below.setCell ?_ (by first | exact Nat.le_refl _ | (simp only [World.size_alloc, World.size_setCell, World.size_drew]; omega) | omega) _ | refine Below.drew ?_))⟩

theorem areInc_any (n : Int) (a : Option Addr) (len cap : Nat) (a1 : Option Addr) (es : List Int) (cap1 : Nat) (w : World) (hn : n ≤ 9223372036854775807) (hx : Rd w a1 es) :
    Calls Try.prog 83 #[.agg #[.int .i64 n, .slice a len cap], .slice a1 es.length cap1] w fun e w' => e = .returned (.bool (incB n es)) ∧ Below w.heap.size w w' := by
  have hlen := hx.len
  go_enter Try.func83, Try.ntmps83
  go_wp2_with fail
  go_loopw [5, 10] (fun l i wr => ∃ k : Nat, k ≤ es.length ∧ i = .int .i64 k ∧ l = .int .i64 (if k = 0 then 0 else nth es (k-1) + 1) ∧ (∀ j, j < k → okI n es j = true) ∧ Below w.heap.size w wr ∧ Box2 wr w.heap.size (.int .i64 n) (.slice a len cap)) (fun _ i _ => es.length - (intOf i).toNat)
  case atStart => exact ⟨0, Nat.zero_le _, rfl, rfl, fun j hj => by omega, (by repeat (first | exact Below.refl _ _ | assumption | refine Below.alloc ?_ (by first | exact Nat.le_refl _ | (simp only [World.size_alloc, World.size_setCell, World.size_drew]; omega) | omega) _ | refine Below.setCell ?_ (by first | exact Nat.le_refl _ | (simp only [World.size_alloc, World.size_setCell, World.size_drew]; omega) | omega) _ | refine Below.drew ?_)), Box2.new _ _ _ _⟩
  case round =>
    obtain ⟨k, hk, rfl, rfl, hall, hb, hB⟩ := hrel
    have HA := Lib.hid hall
    have ⟨zB, cB, dB⟩ := hB
    obtain ⟨l, hl⟩ : ∃ l, l = (if k = 0 then 0 else nth es (k-1) + 1) := ⟨_, rfl⟩
    have HL := Lib.hid hl
    rw [← hl]
    clear hl
    by_cases hlt : k < es.length
    · obtain ⟨b, off, rfl, hbl, hc⟩ := (hx.below hb).cell k hlt
      have hprev : k ≠ 0 → nth es (k-1) < n := fun h0 => (okI_elem (hall (k-1) (by omega))).2
      have hprev0 : k ≠ 0 → 0 ≤ nth es (k-1) := fun h0 => (okI_elem (hall (k-1) (by omega))).1
      clear hall
      by_cases hll : nth es k < l
      · have hno : okI n es k = false := by
          have hl := HL.out
          split at hl
          · have : elemB (nth es k) n = false := elemB_no.2 (.inl (by omega))
            simp [okI, this]
          · rename_i h0
            simp [okI, h0]
            intro _
            omega
        have HN := Lib.hid (incB_no hlt hno)
        clear hno hprev hprev0
        go_wp2_with fail
        go_ret
        exact ⟨ret_bool HN.out.symm, hb⟩
      · cases hel : elemB (nth es k) n
        · have HN := Lib.hid (incB_no hlt (show okI n es k = false by simp [okI, hel]))
          clear hprev hprev0
          go_wp2_with fail
          refine (isElement_any _ _ _ _ _ _).mono ?_
          rintro e w2 ⟨rfl, hb2⟩
          go_wp2_with fail
          go_ret
          exact ⟨ret_bool HN.out.symm, hb.trans (hb2.mono hb.size)⟩
        · have hyes : okI n es k = true := by
            have hl := HL.out
            simp only [okI, hel, Bool.true_and]
            by_cases h0 : k = 0
            · simp [h0]
            · rw [if_neg h0] at hl
              simp [h0]
              omega
          have HN := Lib.hid hyes
          have h1 := (elemB_iff.1 hel).1
          have h2 := (elemB_iff.1 hel).2
          clear hyes hprev hprev0
          go_wp2_with fail
          refine (isElement_any _ _ _ _ _ _).mono ?_
          rintro e w2 ⟨rfl, hb2⟩
          go_wp2_with fail
          go_roundw
          case rel =>
            refine ⟨k + 1, by omega, by go_num, by simp, fun j hj => ?_, hb.trans (hb2.mono hb.size), hB.below hb2⟩
            by_cases e : j = k
            · rw [e]; exact HN.out
            · exact HA.out j (by omega)
          case measure => simp [intOf]; omega
    · obtain rfl : k = es.length := by omega
      have HN := Lib.hid (incB_iff.2 HA.out)
      clear hall
      go_wp2_with fail
      go_ret
      exact ⟨ret_bool HN.out.symm, hb⟩

theorem iPartOf_any (n : Int) (a : Option Addr) (xs : List Int) (cap : Nat) (a1 : Option Addr) (es : List Int) (cap1 : Nat) (w : World) (hn : -9223372036854775808 ≤ n ∧ n ≤ 9223372036854775807) (hx : Rd w a xs) (hy : Rd w a1 es) :
    Calls Try.prog 26 #[.agg #[.int .i64 n, .slice a xs.length cap], .slice a1 es.length cap1] w (GotO w (parN n xs es) (parL n xs es) (okP n xs es)) := by
  have hx1 := (hx.alloc (.cells #[.int .i64 n, .slice a xs.length cap] 28)).alloc (.cells #[.int .i64 0, .slice none 0 0] 28)
  obtain ⟨i0, hi, hz0, hz1, hz2⟩ := info_parts infoInt
  cases hr : relB n xs
  · have H0 : Hid (okP n xs es = false) := by simp [Hid, okP, hr]
    have H1 : Hid (parN n xs es = 0) := by simp [Hid, parN, H0.out]
    have H2 : Hid (parL n xs es = []) := by simp [Hid, parL, H0.out]
    go_enter Try.func26, Try.ntmps26
    go_wp2_with fail
    refine (iIsRelation_any _ _ _ _ _ hn hx1).mono ?_
    rintro e w1 ⟨rfl, hb1⟩
    have hz := hb1.size
    simp only [World.size_alloc] at hz
    obtain ⟨hc, hf⟩ := bcell hb1
    have bw1 : Below w.heap.size w w1 := Below.trans (by repeat (first | exact Below.refl _ _ | assumption | refine Below.alloc ?_ (by first | exact Nat.le_refl _ | (simp only [World.size_alloc, World.size_setCell, World.size_drew]; omega) | omega) _ | refine Below.setCell ?_ (by first | exact Nat.le_refl _ | (simp only [World.size_alloc, World.size_setCell, World.size_drew]; omega) | omega) _ | refine Below.drew ?_)) (hb1.mono (by first | (simp only [World.size_alloc, World.size_setCell, World.size_drew]; omega) | omega))
    go_wp2_with fail
    refine bodyPost_ret (v := .tuple #[.agg #[.int .i64 0, .slice none 0 0], .bool false]) (by simp [results, Try.results26, go_sem, hc]) rfl ?_
    refine ⟨none, 0, ?_, ?_, ?_⟩
    · rw [H0.out, H1.out, H2.out]; rfl
    · rw [H2.out]; exact OwnI.nil _ _
    · exact (bw1.setCell (by simp) _).setCell (by simp) _
  · have hp := relB_p hr
    have hn0 := hp.n0
    have hn1 := hp.n1
    cases hin : incB n es
    · have H0 : Hid (okP n xs es = false) := by simp [Hid, okP, hin]
      have H1 : Hid (parN n xs es = 0) := by simp [Hid, parN, H0.out]
      have H2 : Hid (parL n xs es = []) := by simp [Hid, parL, H0.out]
      go_enter Try.func26, Try.ntmps26
      go_wp2_with fail
      refine (iIsRelation_any _ _ _ _ _ hn hx1).mono ?_
      rintro e w1 ⟨rfl, hb1⟩
      have A1 : Box2 w1 w.heap.size (.int .i64 n) (.slice a xs.length cap) := ((Box2.new w _ _ _).below ((Below.refl _ _).alloc (Nat.le_refl _) _)).below hb1
      have R1 : Var2 w1 (w.heap.size + 1) (.int .i64 0) (.slice none 0 0) := by
        have := (Var2.new (w.alloc (.cells #[.int .i64 n, .slice a xs.length cap] 28)) (.int .i64 0) (.slice none 0 0) 28).below hb1
        simpa using this
      have ⟨zA, cA, dA⟩ := A1
      have bw1 : Below w.heap.size w w1 := Below.trans (by repeat (first | exact Below.refl _ _ | assumption | refine Below.alloc ?_ (by first | exact Nat.le_refl _ | (simp only [World.size_alloc, World.size_setCell, World.size_drew]; omega) | omega) _ | refine Below.setCell ?_ (by first | exact Nat.le_refl _ | (simp only [World.size_alloc, World.size_setCell, World.size_drew]; omega) | omega) _ | refine Below.drew ?_)) (hb1.mono (by first | (simp only [World.size_alloc, World.size_setCell, World.size_drew]; omega) | omega))
      clear hb1
      go_wp2_with fail
      refine (areInc_any _ _ _ _ _ _ _ _ (by omega) (hy.below bw1)).mono ?_
      rintro e w2 ⟨rfl, hb2⟩
      have R2 := R1.below hb2
      have ⟨⟨zR, cR, dR⟩, fR, gR⟩ := R2
      have bw2 := bw1.trans (hb2.mono bw1.size)
      go_wp2_with fail
      have R3 := R2.set (.int .i64 0) (.slice none 0 0)
      refine bodyPost_ret (v := .tuple #[.agg #[.int .i64 0, .slice none 0 0], .bool false]) (by have ⟨⟨_, q1, q2⟩, _, _⟩ := R3; simp [results, Try.results26, go_sem, q1, q2]) rfl ?_
      refine ⟨none, 0, ?_, ?_, ?_⟩
      · rw [H0.out, H1.out, H2.out]; rfl
      · rw [H2.out]; exact OwnI.nil _ _
      · exact (bw2.setCell (by simp) _).setCell (by simp) _
    · have H0 : Hid (okP n xs es = true) := by simp [Hid, okP, hr, hin]
      have H1 : Hid (parN n xs es = (es.length : Int)) := by simp [Hid, parN, H0.out]
      have H2 : Hid (parL n xs es = parts xs es es.length) := by simp [Hid, parL, H0.out]
      have he := inc_elems hp hin
      have hl10 := he.len
      go_enter Try.func26, Try.ntmps26
      go_wp2_with fail
      refine (iIsRelation_any _ _ _ _ _ hn hx1).mono ?_
      rintro e w1 ⟨rfl, hb1⟩
      have A1 : Box2 w1 w.heap.size (.int .i64 n) (.slice a xs.length cap) := ((Box2.new w _ _ _).below ((Below.refl _ _).alloc (Nat.le_refl _) _)).below hb1
      have R1 : Var2 w1 (w.heap.size + 1) (.int .i64 0) (.slice none 0 0) := by
        have := (Var2.new (w.alloc (.cells #[.int .i64 n, .slice a xs.length cap] 28)) (.int .i64 0) (.slice none 0 0) 28).below hb1
        simpa using this
      have ⟨zA, cA, dA⟩ := A1
      have bw1 : Below w.heap.size w w1 := Below.trans (by repeat (first | exact Below.refl _ _ | assumption | refine Below.alloc ?_ (by first | exact Nat.le_refl _ | (simp only [World.size_alloc, World.size_setCell, World.size_drew]; omega) | omega) _ | refine Below.setCell ?_ (by first | exact Nat.le_refl _ | (simp only [World.size_alloc, World.size_setCell, World.size_drew]; omega) | omega) _ | refine Below.drew ?_)) (hb1.mono (by first | (simp only [World.size_alloc, World.size_setCell, World.size_drew]; omega) | omega))
      clear hb1
      go_wp2_with fail
      refine (areInc_any _ _ _ _ _ _ _ _ (by omega) (hy.below bw1)).mono ?_
      rintro e w2 ⟨rfl, hb2⟩
      have A2 := A1.below hb2
      have R2 := R1.below hb2
      have bw2 := bw1.trans (hb2.mono bw1.size)
      have hz2' : w.heap.size + 2 ≤ w2.heap.size := by have := R2.1.1; omega
      clear A1 R1 cA dA hb2
      go_wp2_with (at_make; refine wpList_make_full _ rfl (.tmp 22) (.tmp 22) 26 rfl (w.heap.size + 2) 3 i0 (.int .i64 0) 1 Try.underlying26 hi hz0 hz1 .i64 .i64 _ _ es.length rfl rfl rfl rfl (by rw [hz2]; omega) (by unfold maxLen; omega) hz2' ?_; intro w3 hown hgrow; have A3 := A2.kept hgrow (by simp))
      have R3 := R2.kept hgrow (by simp)
      have bw3 : Below w.heap.size w w3 := bw2.grown hgrow bw2.size (fun k h => by cases h)
      have hown0 := made_row (partE xs es) hown
      obtain ⟨g, hg⟩ : ∃ g, g = w2.heap.size := ⟨_, rfl⟩
      rw [← hg] at hown0 ⊢
      have hgz : w.heap.size + 2 ≤ g := by omega
      clear hown hgrow A2 R2 hg
      go_wp2_with fail
      clear hr hin
      go_loopw [26] (fun i wr => ∃ k : Nat, k ≤ es.length ∧ i = .int .i64 k ∧ OwnI wr (w.heap.size + 2) (.slice (some ⟨g, 0, none⟩) es.length es.length) (rowF (partE xs es) es.length k) ∧ Below w.heap.size w wr ∧ Box2 wr w.heap.size (.int .i64 n) (.slice a xs.length cap) ∧ Var2 wr (w.heap.size + 1) (.int .i64 0) (.slice none 0 0)) (fun i _ => es.length - (intOf i).toNat)
      case atStart => exact ⟨0, Nat.zero_le _, rfl, hown0, bw3, A3, R3⟩
      case round =>
        obtain ⟨k, hk, rfl, hown, hb, hA, hR⟩ := hrel
        by_cases hlt : k < es.length
        · obtain ⟨b1, off1, rfl, hbl1, hc1⟩ := (hy.below hb).cell k hlt
          obtain ⟨i, hil, hie⟩ := he.ok k hlt
          have HE := Lib.hid hie
          rw [hie] at hc1
          clear hie
          go_wp2_with fail
          go_loopw [33] (fun i' wi => ∃ j : Nat, j ≤ es.length ∧ i' = .int .i64 j ∧ OwnI wi (w.heap.size + 2) (.slice (some ⟨g, 0, none⟩) es.length es.length) ((rowF (partE xs es) es.length k).set k ((partTo es (nth xs i) j : Nat) : Int)) ∧ Below w.heap.size w wi ∧ Box2 wi w.heap.size (.int .i64 n) (.slice a xs.length cap) ∧ Var2 wi (w.heap.size + 1) (.int .i64 0) (.slice none 0 0)) (fun i _ => es.length - (intOf i).toNat)
          case atStart => exact ⟨0, Nat.zero_le _, rfl, by rw [partTo, show (((0 : Nat) : Nat) : Int) = 0 from rfl, rowF_zero _ hlt]; exact hown, hb, hA, hR⟩
          case round =>
            obtain ⟨j, hj, rfl, hown, hb, hA, hR⟩ := hrel
            have ⟨zI, cI, dI⟩ := hA
            by_cases hjl : j < es.length
            · obtain ⟨b2, off2, e2, hbl2, hc2⟩ := (hy.below hb).cell j hjl
              simp only [Option.some.injEq, Addr.mk.injEq, and_true] at e2
              obtain ⟨rfl, rfl⟩ := e2
              obtain ⟨b3, off3, rfl, hbl3, hc3⟩ := (hx.below hb).cell i hil
              obtain ⟨m, hml, hme⟩ := he.ok j hjl
              have hj0 : 0 ≤ nth es j := by rw [hme]; omega
              have s0 := hp.pos i hil
              have s1 := hp.small i hil
              have s2 : nth xs i ≤ 9223372036854775807 := by omega
              obtain ⟨row, hrow⟩ : ∃ row, row = (rowF (partE xs es) es.length k).set k ((partTo es (nth xs i) j : Nat) : Int) := ⟨_, rfl⟩
              have hrl : row.length = es.length := by rw [hrow, List.length_set, rowF_len _ hk]
              have hrk : nth row k = ((partTo es (nth xs i) j : Nat) : Int) := by rw [hrow, nth_set (by rw [rowF_len _ hk]; exact hlt), if_pos rfl]
              have hrs : ∀ y, row.set k y = (rowF (partE xs es) es.length k).set k y := by intro y; rw [hrow, List.set_set]
              rw [← hrow] at hown
              have ⟨ci, fi⟩ := hown.at' hrl.symm (i := k) (by omega)
              rw [hrk] at ci
              have hput := hown.put hrl.symm k ((partTo es (nth xs i) j ||| 2 ^ j : Nat) : Int)
              rw [hrs] at hput
              have hps := partTo_small es (nth xs i) (k := j) (by omega)
              have hor := or_bit (b := partTo es (nth xs i) j) (k := j) (by omega) (by omega)
              have HO := Lib.hid hor
              have HP := Lib.hid hput
              have HR := Lib.hid hrow
              have k0 : (0 : Int) ≤ (k : Int) := by omega
              have k1 : (k : Int) < (es.length : Int) := by omega
              have j0 : (0 : Int) ≤ (j : Int) := by omega
              have j1 : (j : Int) < 62 := by omega
              clear hor hps hme hput hrow hrl hrk hrs
              cases hhas : hasB (nth xs i) (nth es j)
              · go_wp2_with fail
                refine (hasElement_any _ _ _ s0 s2 hj0).mono ?_
                rintro e w' ⟨rfl, rfl⟩
                go_wp2_with fail
                go_roundw
                case rel => exact ⟨j + 1, by omega, by go_num, by rw [HR.out] at hown; simpa [partTo, hhas] using hown, hb, hA, hR⟩
                case measure => simp [intOf]; omega
              · go_wp2_with fail
                refine (hasElement_any _ _ _ s0 s2 hj0).mono ?_
                rintro e w' ⟨rfl, rfl⟩
                go_wp2_with fail
                go_region
                all_goals
                  go_wp2_with fail
                  go_roundw
                  case rel =>
                    rw [HO.out]
                    refine ⟨j + 1, by omega, by go_num, ?_, (hb.setCell (p := ⟨g, k, none⟩) (show w.heap.size ≤ g by omega) _).drew, hA.set (p := ⟨g, k, none⟩) _ (show w.heap.size ≠ g by omega), hR.other (p := ⟨g, k, none⟩) _ (show w.heap.size + 1 ≠ g by omega)⟩
                    have := HP.out.1
                    simp only [partTo, hhas, if_true]
                    exact this
                  case measure => simp [intOf]; omega
            · obtain rfl : j = es.length := by omega
              have hnext : (rowF (partE xs es) es.length k).set k ((partTo es (nth xs i) es.length : Nat) : Int) = rowF (partE xs es) es.length (k + 1) := by
                rw [← rowF_set _ hlt, partE, HE.out, Int.toNat_natCast]
              rw [hnext] at hown
              have HN := Lib.hid hown
              clear hnext hown
              go_wp2_with fail
              go_roundw
              case rel => exact ⟨k + 1, by omega, by go_num, HN.out, hb, hA, hR⟩
              case measure => simp [intOf]; omega
        · obtain rfl : k = es.length := by omega
          have ⟨⟨zR, cR, dR⟩, fR, gR⟩ := hR
          rw [rowF_end] at hown
          have ho : OwnI wr (w.heap.size + 2) (.slice (some ⟨g, 0, none⟩) es.length es.length) (parts xs es es.length) := hown
          go_wp2_with fail
          have R3 := hR.set (.int .i64 (es.length : Int)) (.slice (some ⟨g, 0, none⟩) es.length es.length)
          refine bodyPost_ret (v := .tuple #[.agg #[.int .i64 (es.length : Int), .slice (some ⟨g, 0, none⟩) es.length es.length], .bool true]) (by have ⟨⟨_, q1, q2⟩, _, _⟩ := R3; simp [results, Try.results26, go_sem, q1, q2]) rfl ?_
          refine ⟨some ⟨g, 0, none⟩, es.length, ?_, ?_, ?_⟩
          · rw [H0.out, H1.out, H2.out, parts_len]
          · rw [H2.out, parts_len]
            exact ((ho.setBelow (p := ⟨w.heap.size + 1, 0, none⟩) (show w.heap.size + 1 < w.heap.size + 2 by omega) _).setBelow (p := ⟨w.heap.size + 1, 1, none⟩) (show w.heap.size + 1 < w.heap.size + 2 by omega) _).mono (by omega)
          · exact (hb.setCell (p := ⟨w.heap.size + 1, 0, none⟩) (show w.heap.size ≤ w.heap.size + 1 by omega) _).setCell (p := ⟨w.heap.size + 1, 1, none⟩) (show w.heap.size ≤ w.heap.size + 1 by omega) _

set_option maxRecDepth 100000 in
set_option maxHeartbeats 8000000 in
theorem walk (a0 : Option Addr) (n0 cap0 : Nat) (a1 : Option Addr) (n1 cap1 : Nat) (w : World) (hR0 : RdB w a0 n0) (hl0 : n0 ≤ 9223372036854775807) (hR1 : RdB w a1 n1) (hl1 : n1 ≤ 9223372036854775807) :
    Calls Try.prog 4 #[.slice a0 n0 cap0, .slice a1 n1 cap1] w fun e w' => e = .returned (.bool true) ∧ Below w.heap.size w w' := by
  go_enter Try.func4, Try.ntmps4
  go_wp2_with fail
  refine (big_any _ _ _ _ _ _ _ hl0 hl1).mono ?_
  rintro e w' ⟨he, rfl⟩
  rcases he with rfl | ⟨rfl, hb0, hb1⟩
  · go_wp2_with fail
    go_ret
    exact ⟨rfl, (by repeat (first | exact Below.refl _ _ | assumption | refine Below.alloc ?_ (by first | exact Nat.le_refl _ | (simp only [World.size_alloc, World.size_setCell, World.size_drew]; omega) | omega) _ | refine Below.setCell ?_ (by first | exact Nat.le_refl _ | (simp only [World.size_alloc, World.size_setCell, World.size_drew]; omega) | omega) _ | refine Below.drew ?_))⟩
  · go_wp2_with fail
    refine (drStretch_any _ _ _ _ hR0 hb0).mono ?_
    rintro e w1 ⟨n, a, cap, cs, at', by', rfl, ho, hn12, hx, hat, hby, hb⟩
    have hcl : cs.length = n * 2 := ho.len
    have hat' : -9223372036854775808 ≤ at' ∧ at' ≤ 9223372036854775807 := by omega
    have hby' : -9223372036854775808 ≤ by' ∧ by' ≤ 9223372036854775807 := by omega
    have HB := Lib.hid hb
    have HR := Lib.hid (ho.rd (by omega))
    have HM := Lib.hid (hR1.below hb)
    clear hx ho hb hR0 hR1 hl0 hl1 hb0
    have HEQ : Hid (∀ (m : Int) (zs : List Int), eqO m zs m zs = true) := fun m zs => eqO_refl m zs
    obtain ⟨N, hN⟩ : ∃ N, N = strVN cs at' by' n := ⟨_, rfl⟩
    obtain ⟨L, hL⟩ : ∃ L, L = strVL cs at' by' n := ⟨_, rfl⟩
    obtain ⟨G, hG⟩ : ∃ G, G = strB cs at' by' n := ⟨_, rfl⟩
    have hLl : L.length = N * 2 := by rw [hL, hN]; exact strVL_len _ _ _ _
    have hNl : N ≤ 1048576 := by rw [hN]; exact strVN_le
    have HIS := Lib.hid (fun W (h : Rd W a cs) => iStretch_any a cs n cap at' by' W h hcl (by omega) hat' hby')
    have HSS := Lib.hid (fun W (h : Rd W a cs) => sStretch_any a cs n cap at' by' W h hcl (by omega) hat' hby')
    unfold GotV at HIS HSS
    rw [← hN, ← hL, ← hG] at HIS HSS
    have HN := Lib.hid hN
    have HL := Lib.hid hL
    have HG := Lib.hid hG
    have HCL := Lib.hid hcl
    have HLL := Lib.hid hLl
    have q1 : (G != G) = false := by simp
    clear hN hL hG hcl hLl
    go_wp2_with fail
    refine (HIS.out _ HR.out).mono ?_
    rintro e w3 ⟨a3, c3, rfl, ho3, hb3⟩
    replace HB := Lib.hid (HB.out.trans (hb3.mono HB.out.size))
    replace HR := Lib.hid (HR.out.below hb3)
    replace HM := Lib.hid (HM.out.below hb3)
    clear hb3
    have HC := Lib.hid (ho3.rd hNl)
    clear ho3
    go_wp2_with fail
    refine (HSS.out _ HR.out).mono ?_
    rintro e w4 ⟨a4, c4, rfl, ho4, hb4⟩
    replace HB := Lib.hid (HB.out.trans (hb4.mono HB.out.size))
    replace HR := Lib.hid (HR.out.below hb4)
    replace HM := Lib.hid (HM.out.below hb4)
    replace HC := Lib.hid (HC.out.below hb4)
    clear hb4
    have HD := Lib.hid (ho4.rd hNl)
    clear ho4 HIS HSS
    go_wp2_with fail
    refine ((pSameV_same a3 a4 L N c3 c4 _ HC.out HD.out HLL.out hNl)).mono ?_
    rintro e w5 ⟨rfl, hb5⟩
    replace HB := Lib.hid (HB.out.trans (hb5.mono HB.out.size))
    replace HR := Lib.hid (HR.out.below hb5)
    replace HM := Lib.hid (HM.out.below hb5)
    replace HC := Lib.hid (HC.out.below hb5)
    replace HD := Lib.hid (HD.out.below hb5)
    clear hb5
    clear HD
    cases hGG : G
    case' false =>
      obtain ⟨w10, e10⟩ : ∃ x, x = w5 := ⟨_, rfl⟩
      subst e10
    case' true =>
      have hst : strB cs at' by' n = true := by rw [← HG.out]; exact hGG
      have hgd := strB_good hst
      have hgd2 : goodV (strVp cs at' by' n) n = true := by simp only [strB, Bool.and_eq_true] at hst; exact hst.2
      have hby0 : 0 ≤ by' := by
        simp only [strB, Bool.and_eq_true] at hst
        exact (strOk_iff.1 hst.1).2.2.2.1
      have e1 : N = n := by rw [HN.out, strVN, if_pos hst]
      have e2 : L = strVp cs at' by' n := by rw [HL.out, strVL, if_pos hst]
      have hil : (ivo cs n n).length = n := ivo_len _ _ _
      have HO1 : Hid (∀ W, Rd W a cs → Calls Try.prog 11 #[.slice a n cap] W fun e w' => ∃ a' c', e = .returned (.tuple #[.agg #[.int .i64 (n : Int), .slice a' n c'], .bool true]) ∧ OwnI w' W.heap.size (.slice a' n c') (ivo cs n n) ∧ Below W.heap.size W w') := fun W h => by
        have := iOrderOfIv_any a cs n cap W h HCL.out (by omega)
        unfold GotO at this
        rw [ooN, ooL, hgd, if_pos rfl, if_pos rfl, hil] at this
        exact this
      have HO2 : Hid (∀ W, Rd W a3 L → Calls Try.prog 11 #[.slice a3 N c3] W fun e w' => ∃ a' c', e = .returned (.tuple #[.agg #[.int .i64 (n : Int), .slice a' n c'], .bool true]) ∧ OwnI w' W.heap.size (.slice a' n c') (ivo cs n n) ∧ Below W.heap.size W w') := fun W h => by
        have := iOrderOfIv_any a3 L N c3 W h HLL.out hNl
        unfold GotO at this
        rw [e1, e2, ooN, ooL, hgd2, if_pos rfl, if_pos rfl, str_ivo cs n hby0, hil] at this
        rw [e1]
        exact this
      have HIL := Lib.hid hil
      generalize ivo cs n n = I at HO1 HO2 HIL
      clear hst hgd hgd2 hby0 e1 e2 hil
      go_wp2_with fail
      refine (HO1.out _ HR.out).mono ?_
      rintro e w6 ⟨a6, c6, rfl, ho6, hb6⟩
      replace HB := Lib.hid (HB.out.trans (hb6.mono HB.out.size))
      replace HR := Lib.hid (HR.out.below hb6)
      replace HM := Lib.hid (HM.out.below hb6)
      replace HC := Lib.hid (HC.out.below hb6)
      clear hb6
      have HP := Lib.hid ho6.rd
      clear ho6
      have ba6 : Below w6.heap.size w6 (w6.alloc (.cells #[.int .i64 (n : Int), .slice a6 n c6] 28)) := (Below.refl _ _).alloc (Nat.le_refl _) _
      have HX := Lib.hid (Box2.new w6 (.int .i64 (n : Int)) (.slice a6 n c6) 28)
      replace HB := Lib.hid (HB.out.trans (ba6.mono HB.out.size))
      replace HM := Lib.hid (HM.out.below ba6)
      replace HC := Lib.hid (HC.out.below ba6)
      replace HP := Lib.hid (HP.out.below ba6)
      obtain ⟨v6, hv6⟩ : ∃ x : World, x = w6.alloc (.cells #[.int .i64 (n : Int), .slice a6 n c6] 28) := ⟨_, rfl⟩
      have HV6 := Lib.hid hv6
      rw [← hv6] at HX HB HM HC HP
      clear ba6 hv6
      have cX := HX.out.2
      go_wp2_with fail
      rw [← HV6.out]
      clear cX
      have ⟨zX, cX, dX⟩ := HX.out
      refine (HO2.out _ HC.out).mono ?_
      rintro e w7 ⟨a7, c7, rfl, ho7, hb7⟩
      try clear zX cX dX
      replace HB := Lib.hid (HB.out.trans (hb7.mono HB.out.size))
      replace HX := Lib.hid (HX.out.below hb7)
      replace HM := Lib.hid (HM.out.below hb7)
      replace HC := Lib.hid (HC.out.below hb7)
      replace HP := Lib.hid (HP.out.below hb7)
      have ⟨zX, cX, dX⟩ := HX.out
      clear hb7
      have HQ := Lib.hid ho7.rd
      clear ho7
      have ba7 : Below w7.heap.size w7 (w7.alloc (.cells #[.int .i64 (n : Int), .slice a7 n c7] 28)) := (Below.refl _ _).alloc (Nat.le_refl _) _
      have HY := Lib.hid (Box2.new w7 (.int .i64 (n : Int)) (.slice a7 n c7) 28)
      replace HB := Lib.hid (HB.out.trans (ba7.mono HB.out.size))
      replace HX := Lib.hid (HX.out.below ba7)
      replace HM := Lib.hid (HM.out.below ba7)
      replace HP := Lib.hid (HP.out.below ba7)
      replace HQ := Lib.hid (HQ.out.below ba7)
      obtain ⟨v7, hv7⟩ : ∃ x : World, x = w7.alloc (.cells #[.int .i64 (n : Int), .slice a7 n c7] 28) := ⟨_, rfl⟩
      have HV7 := Lib.hid hv7
      rw [← hv7] at HY HB HX HM HP HQ
      clear ba7 hv7
      have cY := HY.out.2
      go_wp2_with fail
      rw [← HV7.out]
      try clear zX cX dX
      clear cY
      have ⟨zX, cX, dX⟩ := HX.out
      have ⟨zY, cY, dY⟩ := HY.out
      have hps := fun W h h2 => pSameO_any (n : Int) (n : Int) a6 a7 I I c6 c7 W h h2
      rw [HIL.out] at hps
      refine ((hps _ HP.out HQ.out)).mono ?_
      rw [HEQ.out]
      rintro e w10 ⟨rfl, hb10⟩
      try clear zX cX dX
      try clear zY cY dY
      replace HB := Lib.hid (HB.out.trans (hb10.mono HB.out.size))
      replace HX := Lib.hid (HX.out.below hb10)
      replace HY := Lib.hid (HY.out.below hb10)
      replace HM := Lib.hid (HM.out.below hb10)
      replace HP := Lib.hid (HP.out.below hb10)
      replace HQ := Lib.hid (HQ.out.below hb10)
      have ⟨zX, cX, dX⟩ := HX.out
      have ⟨zY, cY, dY⟩ := HY.out
      clear hb10
      clear HO1 HO2 HIL hps HP HQ HX HY
    all_goals
      clear hGG HN HL HG HCL HLL
      try clear HR
      try clear HC
      go_wp2_with fail
      refine (drInsert_any _ _ _ _ HM.out hb1).mono ?_
      rintro e w11 ⟨m, aq, cq, xs, lx, rx, rfl, ho11, hxl, hm0, hm1, hlx, hrx, hb11⟩
      replace HB := Lib.hid (HB.out.trans (hb11.mono HB.out.size))
      replace HM := Lib.hid (HM.out.below hb11)
      clear hb11
      have hmm : -9223372036854775808 ≤ m ∧ m ≤ 9223372036854775807 := by omega
      have HQ := Lib.hid ho11.rd
      clear ho11 HM
      obtain ⟨N2, hN⟩ : ∃ N, N = insN m xs lx rx := ⟨_, rfl⟩
      obtain ⟨L2, hL⟩ : ∃ L, L = insL m xs lx rx := ⟨_, rfl⟩
      obtain ⟨G2, hG⟩ : ∃ G, G = insB m xs lx rx := ⟨_, rfl⟩
      have HII := Lib.hid (fun W (h : Rd W aq xs) => iInsert_any m aq xs cq lx rx W hmm h)
      have HSI := Lib.hid (fun W (h : Rd W aq xs) => sInsert_any m aq xs cq lx rx W hmm h)
      unfold GotO at HII HSI
      rw [← hN, ← hL, ← hG] at HII HSI
      have HN := Lib.hid hN
      have HL := Lib.hid hL
      have HG := Lib.hid hG
      have q2 : (G2 != G2) = false := by simp
      clear hN hL hG
      have bA : Below w11.heap.size w11 (w11.alloc (.cells #[.int .i64 m, .slice aq xs.length cq] 28)) := (by repeat (first | exact Below.refl _ _ | assumption | refine Below.alloc ?_ (by first | exact Nat.le_refl _ | (simp only [World.size_alloc, World.size_setCell, World.size_drew]; omega) | omega) _ | refine Below.setCell ?_ (by first | exact Nat.le_refl _ | (simp only [World.size_alloc, World.size_setCell, World.size_drew]; omega) | omega) _ | refine Below.drew ?_))
      have bZ : Below (w11.alloc (.cells #[.int .i64 m, .slice aq xs.length cq] 28)).heap.size (w11.alloc (.cells #[.int .i64 m, .slice aq xs.length cq] 28)) ((w11.alloc (.cells #[.int .i64 m, .slice aq xs.length cq] 28)).alloc (.cells #[.int .i64 lx, .int .i64 rx] 40)) := (by repeat (first | exact Below.refl _ _ | assumption | refine Below.alloc ?_ (by first | exact Nat.le_refl _ | (simp only [World.size_alloc, World.size_setCell, World.size_drew]; omega) | omega) _ | refine Below.setCell ?_ (by first | exact Nat.le_refl _ | (simp only [World.size_alloc, World.size_setCell, World.size_drew]; omega) | omega) _ | refine Below.drew ?_))
      have HX := Lib.hid ((Box2.new w11 (.int .i64 m) (.slice aq xs.length cq) 28).below bZ)
      have HZ := Lib.hid (Box2.new (w11.alloc (.cells #[.int .i64 m, .slice aq xs.length cq] 28)) (.int .i64 lx) (.int .i64 rx) 40)
      rw [World.size_alloc] at HZ
      replace HQ := Lib.hid ((HQ.out.below bA).below bZ)
      replace HB := Lib.hid (HB.out.trans ((bA.trans (bZ.mono (by simp))).mono HB.out.size))
      obtain ⟨w12, hw12⟩ : ∃ x : World, x = (w11.alloc (.cells #[.int .i64 m, .slice aq xs.length cq] 28)).alloc (.cells #[.int .i64 lx, .int .i64 rx] 40) := ⟨_, rfl⟩
      rw [← hw12] at HX HZ HQ HB
      have HW12 := Lib.hid hw12
      clear bA bZ hw12
      go_wp2_with fail
      rw [← HW12.out]
      clear HW12
      refine (HII.out _ HQ.out).mono ?_
      rintro e w13 ⟨a13, c13, rfl, ho13, hb13⟩
      try clear zX cX dX
      try clear zZ cZ dZ
      replace HB := Lib.hid (HB.out.trans (hb13.mono HB.out.size))
      replace HX := Lib.hid (HX.out.below hb13)
      replace HZ := Lib.hid (HZ.out.below hb13)
      replace HQ := Lib.hid (HQ.out.below hb13)
      have ⟨zX, cX, dX⟩ := HX.out
      have ⟨zZ, cZ, dZ⟩ := HZ.out
      clear hb13
      have HC := Lib.hid ho13.rd
      clear ho13
      have ba13 : Below w13.heap.size w13 (w13.alloc (.cells #[.int .i64 N2, .slice a13 L2.length c13] 28)) := (Below.refl _ _).alloc (Nat.le_refl _) _
      have HR := Lib.hid (Box2.new w13 (.int .i64 N2) (.slice a13 L2.length c13) 28)
      replace HB := Lib.hid (HB.out.trans (ba13.mono HB.out.size))
      replace HX := Lib.hid (HX.out.below ba13)
      replace HZ := Lib.hid (HZ.out.below ba13)
      replace HQ := Lib.hid (HQ.out.below ba13)
      replace HC := Lib.hid (HC.out.below ba13)
      obtain ⟨v13, hv13⟩ : ∃ x : World, x = w13.alloc (.cells #[.int .i64 N2, .slice a13 L2.length c13] 28) := ⟨_, rfl⟩
      have HV13 := Lib.hid hv13
      rw [← hv13] at HR HB HX HZ HQ HC
      clear ba13 hv13
      have cR := HR.out.2
      go_wp2_with fail
      rw [← HV13.out]
      try clear zX cX dX
      try clear zZ cZ dZ
      clear cR
      have ⟨zX, cX, dX⟩ := HX.out
      have ⟨zZ, cZ, dZ⟩ := HZ.out
      have ⟨zR, cR, dR⟩ := HR.out
      refine (HSI.out _ HQ.out).mono ?_
      rintro e w14 ⟨a14, c14, rfl, ho14, hb14⟩
      try clear zX cX dX
      try clear zZ cZ dZ
      try clear zR cR dR
      replace HB := Lib.hid (HB.out.trans (hb14.mono HB.out.size))
      replace HX := Lib.hid (HX.out.below hb14)
      replace HZ := Lib.hid (HZ.out.below hb14)
      replace HR := Lib.hid (HR.out.below hb14)
      replace HQ := Lib.hid (HQ.out.below hb14)
      replace HC := Lib.hid (HC.out.below hb14)
      have ⟨zX, cX, dX⟩ := HX.out
      have ⟨zZ, cZ, dZ⟩ := HZ.out
      have ⟨zR, cR, dR⟩ := HR.out
      clear hb14
      have HD := Lib.hid ho14.rd
      clear ho14 HII HSI
      have ba14 : Below w14.heap.size w14 (w14.alloc (.cells #[.int .i64 N2, .slice a14 L2.length c14] 28)) := (Below.refl _ _).alloc (Nat.le_refl _) _
      have HS := Lib.hid (Box2.new w14 (.int .i64 N2) (.slice a14 L2.length c14) 28)
      replace HB := Lib.hid (HB.out.trans (ba14.mono HB.out.size))
      replace HX := Lib.hid (HX.out.below ba14)
      replace HZ := Lib.hid (HZ.out.below ba14)
      replace HR := Lib.hid (HR.out.below ba14)
      replace HQ := Lib.hid (HQ.out.below ba14)
      replace HC := Lib.hid (HC.out.below ba14)
      replace HD := Lib.hid (HD.out.below ba14)
      obtain ⟨v14, hv14⟩ : ∃ x : World, x = w14.alloc (.cells #[.int .i64 N2, .slice a14 L2.length c14] 28) := ⟨_, rfl⟩
      have HV14 := Lib.hid hv14
      rw [← hv14] at HS HB HX HZ HR HQ HC HD
      clear ba14 hv14
      have cS := HS.out.2
      go_wp2_with fail
      rw [← HV14.out]
      try clear zX cX dX
      try clear zZ cZ dZ
      try clear zR cR dR
      clear cS
      have ⟨zX, cX, dX⟩ := HX.out
      have ⟨zZ, cZ, dZ⟩ := HZ.out
      have ⟨zR, cR, dR⟩ := HR.out
      have ⟨zS, cS, dS⟩ := HS.out
      refine ((pSameO_any N2 N2 a13 a14 L2 L2 c13 c14 _ HC.out HD.out)).mono ?_
      rw [HEQ.out]
      rintro e w15 ⟨rfl, hb15⟩
      try clear zX cX dX
      try clear zZ cZ dZ
      try clear zR cR dR
      try clear zS cS dS
      replace HB := Lib.hid (HB.out.trans (hb15.mono HB.out.size))
      replace HX := Lib.hid (HX.out.below hb15)
      replace HZ := Lib.hid (HZ.out.below hb15)
      replace HR := Lib.hid (HR.out.below hb15)
      replace HS := Lib.hid (HS.out.below hb15)
      replace HQ := Lib.hid (HQ.out.below hb15)
      replace HC := Lib.hid (HC.out.below hb15)
      replace HD := Lib.hid (HD.out.below hb15)
      have ⟨zX, cX, dX⟩ := HX.out
      have ⟨zZ, cZ, dZ⟩ := HZ.out
      have ⟨zR, cR, dR⟩ := HR.out
      have ⟨zS, cS, dS⟩ := HS.out
      clear hb15
      clear HD HS
      try clear zS cS dS
      cases hG2 : G2
      · go_wp2_with fail
        go_ret
        exact ⟨rfl, HB.out⟩
      · have hib : insB m xs lx rx = true := by rw [← HG.out]; exact hG2
        have hiv : isIv m xs = true := by simp only [insB, Bool.and_eq_true] at hib; exact hib.1
        have hor := isIv_ord hiv
        have hp := relB_p (ordB_iff.1 hor).1
        have hx10 : xs.length < 10 := by simp only [insB, Bool.and_eq_true, decide_eq_true_eq] at hib; exact hib.2.2
        obtain rfl : m = (xs.length : Int) := hp.len.symm
        have hgd : goodV (insC xs lx rx) (xs.length + 1) = true := by rw [ins_good hiv]; exact hib
        have e1 : N2 = ((xs.length + 1 : Nat) : Int) := by rw [HN.out, insN, if_pos hib]
        have e2 : L2 = ivo (insC xs lx rx) (xs.length + 1) (xs.length + 1) := by rw [HL.out, insL, if_pos hib]
        have hl2 : L2.length = xs.length + 1 := by rw [e2, ivo_len]
        have hivr : isIv ((xs.length + 1 : Nat) : Int) L2 = true := by rw [e2]; exact ivo_is hgd
        have hpt := ins_part hib
        rw [← e2] at hpt
        have hpr := relB_p (ordB_iff.1 (isIv_ord hivr)).1
        have hul := upTo_len xs.length
        have hup : ∀ k, k < xs.length → hasB (nth L2 k) ((xs.length : Nat) : Int) = decide (rtE xs k < lx) := fun k hk => by rw [e2]; exact ins_up hk
        have hdn : ∀ k, k < xs.length → hasB (nth L2 xs.length) (k : Int) = decide (rx < lv xs k) := fun k hk => by rw [e2]; exact ins_down hk
        have hlt : ∀ k, k < xs.length + 1 → 0 ≤ nth L2 k ∧ nth L2 k < 1024 := fun k hk => ⟨hpr.pos k (by omega), hpr.small k (by omega)⟩
        have hnn1 : -9223372036854775808 ≤ ((xs.length + 1 : Nat) : Int) ∧ ((xs.length + 1 : Nat) : Int) ≤ 9223372036854775807 := by omega
        have HPT : Hid (∀ W a' c', Rd W a13 L2 → Rd W a' (upTo xs.length) → Calls Try.prog 26 #[.agg #[.int .i64 N2, .slice a13 L2.length c13], .slice a' xs.length c'] W fun e w' => ∃ a9 c9, e = .returned (.tuple #[.agg #[.int .i64 (xs.length : Int), .slice a9 xs.length c9], .bool true]) ∧ OwnI w' W.heap.size (.slice a9 xs.length c9) xs ∧ Below W.heap.size W w') := fun W a' c' h h2 => by
          have := iPartOf_any N2 a13 L2 c13 a' (upTo xs.length) c' W (by rw [e1]; exact hnn1) h h2
          unfold GotO at this
          have hok : okP N2 L2 (upTo xs.length) = true := by
            rw [okP, e1, (ordB_iff.1 (isIv_ord hivr)).1, upTo_inc (by omega)]; rfl
          rw [parN, parL, hok, if_pos rfl, if_pos rfl, hul, hpt] at this
          exact this
        have HIV : Hid (∀ W, Rd W a13 L2 → Calls Try.prog 27 #[.agg #[.int .i64 N2, .slice a13 L2.length c13]] W fun e w' => e = .returned (.tuple #[.bool true, .bool true]) ∧ Below W.heap.size W w') := fun W h => by
          have := iIsInterval_any N2 a13 L2 c13 W (by rw [e1]; exact hnn1) h
          rw [e1, hivr, isIv_ord hivr] at this
          rw [e1]
          exact this
        have HEN : Hid (∀ W, Rd W aq xs → Calls Try.prog 15 #[.agg #[.int .i64 (xs.length : Int), .slice aq xs.length cq]] W fun e w' => ∃ a'' c'', e = .returned (.tuple #[.slice a'' xs.length c'', .bool true]) ∧ OwnV w' W.heap.size (.slice a'' xs.length c'') xs.length (endp xs xs.length) ∧ Below W.heap.size W w') := fun W h => by
          have := iEnds_any (xs.length : Int) aq xs cq W hmm h
          unfold GotV at this
          rw [endN, endL, hiv, if_pos rfl, if_pos rfl] at this
          exact this
        have HEL : Hid ((endp xs xs.length).length = xs.length * 2) := prs_len _ _ _
        have HEP : Hid (∀ k, k < xs.length → lft (endp xs xs.length) k = lv xs k ∧ rgt (endp xs xs.length) k = rtE xs k) := fun k hk => ⟨prs_lft _ _ hk, prs_rgt _ _ hk⟩
        have HUP := Lib.hid hup
        have HDN := Lib.hid hdn
        have HLT := Lib.hid hlt
        have HL2 := Lib.hid hl2
        have HUL := Lib.hid hul
        have HUS : Hid (∀ k, upTo (k+1) = upTo k ++ [(k : Int)]) := fun k => fmap_succ _ _
        have HU0 : Hid (upTo 0 = []) := rfl
        have HUK : Hid (∀ k, (upTo k).length = k) := upTo_len
        generalize endp xs xs.length = E at HEN HEL HEP
        clear hib hiv hor hp hgd e1 e2 hl2 hivr hpt hpr hul hup hdn hlt HN HL HG hG2 q2 q1
        go_wp2_with fail
        have HBB := HB
        have HQQ := HQ
        have HCC := HC
        have HXX := HX
        have HZZ := HZ
        have HRR := HR
        try clear zX cX dX
        try clear zZ cZ dZ
        try clear zR cR dR
        go_loopw [22, 23] (fun v i wr => ∃ (k : Nat) (av : Option Addr) (cv : Nat), k ≤ xs.length ∧ i = .int .i64 k ∧ v = .slice av k cv ∧ OwnI wr w15.heap.size (.slice av k cv) (upTo k) ∧ Below w15.heap.size w15 wr) (fun _ i _ => xs.length - (intOf i).toNat)
        case atStart => exact ⟨0, none, 0, Nat.zero_le _, rfl, rfl, by rw [HU0.out]; exact OwnI.nil _ _, Below.refl _ _⟩
        case round =>
          obtain ⟨k, av, cv, hk, rfl, rfl, ho, hb⟩ := hrel
          have ⟨zX, cX, dX⟩ := HXX.out.below hb
          have hs := hb.size
          have HO := Lib.hid ho
          have HT := Lib.hid hb
          have hkl := HUK.out k
          clear ho hb
          by_cases hlt : k < xs.length
          · have k1 : (k : Int) < (xs.length : Int) := by omega
            have HKL := Lib.hid hkl
            clear hkl
            go_wp2_with (at_builtin; refine push_at (v := .slice av k cv) (ys := upTo k) (z := (k : Int)) rfl _ _ rfl rfl HO.out rfl (by rw [HKL.out]; omega) hs ?_; intro v7 w7 o7 hg7 hat7; revert hat7)
            intro hat7
            rw [← HUS.out k] at o7
            obtain ⟨av7, cv7, ev7⟩ := o7.form
            rw [HUK.out] at ev7
            subst ev7
            have hb7 := HT.out.trans (below_of_grown hg7 (fun c e => (HO.out.lt c e).1) hs)
            clear hat7 hg7
            go_wp2_with fail
            go_roundw
            case rel => exact ⟨k + 1, av7, cv7, by omega, by go_num, rfl, o7, hb7⟩
            case measure => simp [intOf]; omega
          · obtain rfl : k = xs.length := by omega
            clear hkl
            replace HB := Lib.hid (HBB.out.trans (HT.out.mono HBB.out.size))
            replace HQ := Lib.hid (HQQ.out.below HT.out)
            replace HC := Lib.hid (HCC.out.below HT.out)
            replace HX := Lib.hid (HXX.out.below HT.out)
            replace HZ := Lib.hid (HZZ.out.below HT.out)
            replace HR := Lib.hid (HRR.out.below HT.out)
            have HV := Lib.hid (HO.out.rd)
            have ⟨zZ, cZ, dZ⟩ := HZ.out
            have ⟨zR, cR, dR⟩ := HR.out
            clear HBB HQQ HCC HXX HZZ HRR HO HT
            go_wp2_with fail
            refine (HPT.out _ _ _ HC.out HV.out).mono ?_
            rintro e w16 ⟨a16, c16, rfl, ho16, hb16⟩
            try clear zX cX dX
            try clear zZ cZ dZ
            try clear zR cR dR
            replace HB := Lib.hid (HB.out.trans (hb16.mono HB.out.size))
            replace HX := Lib.hid (HX.out.below hb16)
            replace HZ := Lib.hid (HZ.out.below hb16)
            replace HR := Lib.hid (HR.out.below hb16)
            replace HQ := Lib.hid (HQ.out.below hb16)
            replace HC := Lib.hid (HC.out.below hb16)
            replace HV := Lib.hid (HV.out.below hb16)
            have ⟨zX, cX, dX⟩ := HX.out
            have ⟨zZ, cZ, dZ⟩ := HZ.out
            have ⟨zR, cR, dR⟩ := HR.out
            clear hb16
            have HW := Lib.hid ho16.rd
            clear ho16 HPT HV
            have ba16 : Below w16.heap.size w16 (w16.alloc (.cells #[.int .i64 (xs.length : Int), .slice a16 xs.length c16] 28)) := (Below.refl _ _).alloc (Nat.le_refl _) _
            have HP := Lib.hid (Box2.new w16 (.int .i64 (xs.length : Int)) (.slice a16 xs.length c16) 28)
            replace HB := Lib.hid (HB.out.trans (ba16.mono HB.out.size))
            replace HX := Lib.hid (HX.out.below ba16)
            replace HZ := Lib.hid (HZ.out.below ba16)
            replace HR := Lib.hid (HR.out.below ba16)
            replace HQ := Lib.hid (HQ.out.below ba16)
            replace HC := Lib.hid (HC.out.below ba16)
            replace HW := Lib.hid (HW.out.below ba16)
            obtain ⟨v16, hv16⟩ : ∃ x : World, x = w16.alloc (.cells #[.int .i64 (xs.length : Int), .slice a16 xs.length c16] 28) := ⟨_, rfl⟩
            have HV16 := Lib.hid hv16
            rw [← hv16] at HP HB HX HZ HR HQ HC HW
            clear ba16 hv16
            have cP := HP.out.2
            go_wp2_with fail
            rw [← HV16.out]
            try clear zX cX dX
            try clear zZ cZ dZ
            try clear zR cR dR
            clear cP
            have ⟨zX, cX, dX⟩ := HX.out
            have ⟨zZ, cZ, dZ⟩ := HZ.out
            have ⟨zR, cR, dR⟩ := HR.out
            have ⟨zP, cP, dP⟩ := HP.out
            refine (HIV.out _ HC.out).mono ?_
            rintro e w17 ⟨rfl, hb17⟩
            try clear zX cX dX
            try clear zZ cZ dZ
            try clear zR cR dR
            try clear zP cP dP
            replace HB := Lib.hid (HB.out.trans (hb17.mono HB.out.size))
            replace HX := Lib.hid (HX.out.below hb17)
            replace HZ := Lib.hid (HZ.out.below hb17)
            replace HR := Lib.hid (HR.out.below hb17)
            replace HP := Lib.hid (HP.out.below hb17)
            replace HQ := Lib.hid (HQ.out.below hb17)
            replace HC := Lib.hid (HC.out.below hb17)
            replace HW := Lib.hid (HW.out.below hb17)
            have ⟨zX, cX, dX⟩ := HX.out
            have ⟨zZ, cZ, dZ⟩ := HZ.out
            have ⟨zR, cR, dR⟩ := HR.out
            have ⟨zP, cP, dP⟩ := HP.out
            clear hb17
            go_wp2_with fail
            refine (HEN.out _ HQ.out).mono ?_
            rintro e w18 ⟨a18, c18, rfl, ho18, hb18⟩
            try clear zX cX dX
            try clear zZ cZ dZ
            try clear zR cR dR
            try clear zP cP dP
            replace HB := Lib.hid (HB.out.trans (hb18.mono HB.out.size))
            replace HX := Lib.hid (HX.out.below hb18)
            replace HZ := Lib.hid (HZ.out.below hb18)
            replace HR := Lib.hid (HR.out.below hb18)
            replace HP := Lib.hid (HP.out.below hb18)
            replace HQ := Lib.hid (HQ.out.below hb18)
            replace HC := Lib.hid (HC.out.below hb18)
            replace HW := Lib.hid (HW.out.below hb18)
            have ⟨zX, cX, dX⟩ := HX.out
            have ⟨zZ, cZ, dZ⟩ := HZ.out
            have ⟨zR, cR, dR⟩ := HR.out
            have ⟨zP, cP, dP⟩ := HP.out
            clear hb18
            have HE := Lib.hid (ho18.rd (by omega))
            clear ho18 HIV HEN
            go_wp2_with fail
            refine ((pSameO_any (xs.length : Int) (xs.length : Int) a16 aq xs xs c16 cq _ HW.out HQ.out)).mono ?_
            rw [HEQ.out]
            rintro e w19 ⟨rfl, hb19⟩
            try clear zX cX dX
            try clear zZ cZ dZ
            try clear zR cR dR
            try clear zP cP dP
            replace HB := Lib.hid (HB.out.trans (hb19.mono HB.out.size))
            replace HX := Lib.hid (HX.out.below hb19)
            replace HZ := Lib.hid (HZ.out.below hb19)
            replace HR := Lib.hid (HR.out.below hb19)
            replace HP := Lib.hid (HP.out.below hb19)
            replace HQ := Lib.hid (HQ.out.below hb19)
            replace HC := Lib.hid (HC.out.below hb19)
            replace HW := Lib.hid (HW.out.below hb19)
            replace HE := Lib.hid (HE.out.below hb19)
            have ⟨zX, cX, dX⟩ := HX.out
            have ⟨zZ, cZ, dZ⟩ := HZ.out
            have ⟨zR, cR, dR⟩ := HR.out
            have ⟨zP, cP, dP⟩ := HP.out
            clear hb19
            go_wp2_with fail
            have HBB := HB
            have HCC := HC
            have HXX := HX
            have HZZ := HZ
            have HRR := HR
            have HEE := HE
            try clear zX cX dX
            try clear zZ cZ dZ
            try clear zR cR dR
            try clear zP cP dP
            have HWN : Hid (w.heap.size ≤ w19.heap.size) := HB.out.size
            go_loopw [163] (fun i wr => ∃ k : Nat, k ≤ xs.length ∧ i = .int .i64 k ∧ Below w19.heap.size w19 wr) (fun i _ => xs.length - (intOf i).toNat)
            case atStart => exact ⟨0, Nat.zero_le _, rfl, Below.refl _ _⟩
            case round =>
              obtain ⟨k, hk, rfl, hb⟩ := hrel
              have HT := Lib.hid hb
              by_cases hlt : k < xs.length
              · have k1 : (k : Int) < (xs.length : Int) := by omega
                obtain ⟨b1, o1, rfl, hb1, hc1, hc2⟩ := (HEE.out.below hb).pair HEL.out hlt
                rw [(HEP.out k hlt).1] at hc1
                rw [(HEP.out k hlt).2] at hc2
                obtain ⟨b2, o2, rfl, hb2, hc3⟩ := (HCC.out.below hb).cell k (by rw [HL2.out]; omega)
                obtain ⟨b3, o3, e3, hb3, hc4⟩ := (HCC.out.below hb).cell xs.length (by rw [HL2.out]; omega)
                simp only [Option.some.injEq, Addr.mk.injEq, and_true] at e3
                obtain ⟨rfl, rfl⟩ := e3
                have ⟨zX, cX, dX⟩ := HXX.out.below hb
                have ⟨zZ, cZ, dZ⟩ := HZZ.out.below hb
                have ⟨zR, cR, dR⟩ := HRR.out.below hb
                have hL2 := HL2.out
                have i1 : (k : Int) < (L2.length : Int) := by omega
                have i2 : (xs.length : Int) < (L2.length : Int) := by omega
                have hv1 := HLT.out k (by omega)
                have hv2 := HLT.out xs.length (by omega)
                have HP1 : Hid (∀ W, Calls Try.prog 28 #[.int .i64 (nth L2 k), .int .i64 (xs.length : Int)] W fun e w' => e = .returned (.bool (decide (rtE xs k < lx))) ∧ W = w') := fun W => by
                  have := pIn_any (nth L2 k) (xs.length : Int) W (by omega) (by omega) (by omega)
                  rw [HUP.out k hlt] at this
                  exact this
                have HP2 : Hid (∀ W, Calls Try.prog 28 #[.int .i64 (nth L2 xs.length), .int .i64 (k : Int)] W fun e w' => e = .returned (.bool (decide (rx < lv xs k))) ∧ W = w') := fun W => by
                  have := pIn_any (nth L2 xs.length) (k : Int) W (by omega) (by omega) (by omega)
                  rw [HDN.out k hlt] at this
                  exact this
                generalize nth L2 k = s1 at hc3 HP1
                generalize nth L2 xs.length = s2 at hc4 HP2
                generalize rtE xs k = r1 at hc2 HP1
                generalize lv xs k = l1 at hc1 HP2
                clear hb hL2 hv1 hv2
                have HALL : Hid (∀ (s i : Int) (b : Bool), ((s = s1 ∧ i = (xs.length : Int) ∧ b = decide (r1 < lx)) ∨ (s = s2 ∧ i = (k : Int) ∧ b = decide (rx < l1))) → ∀ W, Calls Try.prog 28 #[.int .i64 s, .int .i64 i] W fun e w' => e = .returned (.bool b) ∧ W = w') := by
                  rintro s i b (⟨rfl, rfl, rfl⟩ | ⟨rfl, rfl, rfl⟩)
                  · exact HP1.out
                  · exact HP2.out
                clear HP1 HP2
                go_wp2_with fail
                go_quiet ((go_at_call 28; exact pIn_is (HALL.out _ _ _ (by first | exact .inl ⟨rfl, rfl, rfl⟩ | exact .inr ⟨rfl, rfl, rfl⟩)) _ _))
                go_wp2_with fail
                go_roundw
                case rel => exact ⟨k + 1, by omega, by go_num, (HT.out.alloc HT.out.size _).trans (Joins.below_draws _ _ _)⟩
                case measure => simp [intOf]; omega
              · obtain rfl : k = xs.length := by omega
                have HBz := Lib.hid (HBB.out.trans (hb.mono HBB.out.size))
                clear hb
                go_wp2_with fail
                go_ret
                exact ⟨rfl, HBz.out⟩

theorem rd_of_trod {H : Type} {enc : TypeId × Value → H} {W : World} {fuel : Nat} {c : Value} {y : DataW H × List MemPlace}
    (h : DataW.trod enc Try.prog W 0 (fun _ => true) true fuel 26 [c] = some y) : ∃ (a : Option Addr) (xs : List Int) (cap : Nat), c = .slice a xs.length cap ∧ Rd W a xs ∧ ∀ k, k < xs.length → (Lit.int .i64 (nth xs k)).wf = true := by
  rcases Go.ChangeShapes.open_ints Try.underlying26 Try.underlying3 (by kernel_rfl) h with ⟨hcs, _⟩ | ⟨x, len, cap, zs, hcs, _, hl, hm, hz, _, hcell, hwf⟩
  · simp only [List.cons.injEq, and_true] at hcs
    exact ⟨none, [], 0, hcs, ⟨by simp, fun k hk => by simp at hk⟩, fun k hk => by simp at hk⟩
  · simp only [List.cons.injEq, and_true] at hcs
    simp only [if_true] at hz
    have hlen : (zs.take len).length = len := by rw [List.length_take]; omega
    have hn : ∀ k, k < len → nth (zs.take len) k = zs.getD k 0 := by
      intro k hk
      simp only [nth, List.getD_eq_getElem?_getD, List.getElem?_take, hk, if_true]
    refine ⟨some x, zs.take len, cap, by rw [hlen]; exact hcs, ⟨by rw [hlen]; unfold maxLen at hm; omega, fun k hk => ?_⟩, fun k hk => ?_⟩
    · rw [hlen] at hk
      obtain ⟨b, off, sp⟩ := x
      have h0 := hcell 0 (by omega)
      have hsp : sp = none := by simpa [Addr.add] using World.cell?_spot h0
      subst hsp
      have hk' := hcell k (by omega)
      rw [Addr.add_lit] at hk'
      exact ⟨b, off, rfl, World.block_lt_of_cell? _ _ h0, by rw [hk', hn k hk]⟩
    · rw [hlen] at hk
      rw [hn k hk]
      have hk2 : k < zs.length := by omega
      exact hwf _ (by rw [List.getD_eq_getElem?_getD, List.getElem?_eq_getElem hk2]; exact List.getElem_mem hk2)

theorem own : ownKnob Try.prog.godebug = none := by kernel_rfl
theorem laidOut : laidOutB Try.prog = true := by kernel_rfl
theorem wf_bd {n : Int} (h : (Lit.int .i64 n).wf = true) : -9223372036854775808 ≤ n ∧ n ≤ 9223372036854775807 := by
  simp [Lit.wf, IntKind.min, IntKind.max, IntKind.bits, IntKind.signed] at h
  omega

theorem wf_byte {n : Int} (h : (Lit.int .u8 n).wf = true) : 0 ≤ n ∧ n ≤ 255 := by
  simp [Lit.wf, IntKind.min, IntKind.max, IntKind.bits, IntKind.signed] at h
  omega
/-- a slice of bytes that was handed over -/
theorem rdB_of_trod {H : Type} {enc : TypeId × Value → H} {W : World} {fuel : Nat} {c : Value} {y : DataW H × List MemPlace}
    (h : DataW.trod enc Try.prog W 0 (fun _ => true) true fuel 22 [c] = some y) : ∃ (a : Option Addr) (n cap : Nat), c = .slice a n cap ∧ RdB W a n ∧ n ≤ 9223372036854775807 := by
  rcases Go.ChangeShapes.open_ints Try.underlying22 Try.underlying5 (by kernel_rfl) h with ⟨hcs, _⟩ | ⟨x, len, cap, zs, hcs, _, hl, hm, hz, _, hcell, hwf⟩
  · simp only [List.cons.injEq, and_true] at hcs
    exact ⟨none, 0, 0, hcs, ⟨fun k hk => by omega⟩, by omega⟩
  · simp only [List.cons.injEq, and_true] at hcs
    simp only [if_true] at hz
    refine ⟨some x, len, cap, hcs, ⟨fun k hk => ?_⟩, by unfold maxLen at hm; omega⟩
    obtain ⟨b, off, sp⟩ := x
    have h0 := hcell 0 (by omega)
    have hsp : sp = none := by simpa [Addr.add] using World.cell?_spot h0
    subst hsp
    have hk' := hcell k (by omega)
    rw [Addr.add_lit] at hk'
    have hk2 : k < zs.length := by omega
    have hw := hwf _ (show zs.getD k 0 ∈ zs by rw [List.getD_eq_getElem?_getD, List.getElem?_eq_getElem hk2]; exact List.getElem_mem hk2)
    refine ⟨b, off, rfl, World.block_lt_of_cell? _ _ h0, zs.getD k 0, hk', ?_⟩
    exact wf_byte hw

open Go.ChangeShapes Go.WideShapes Go.ChangeAt Go.RowKit in
set_option maxRecDepth 100000 in
theorem lifted (os : Os) (started : os.Started) (H : Type) (enc : TypeId × Value → H) :
    ReturnsInHanded {} Try.checked os 4 .any (Rows.fnStretchedIntervalsSpec.pre6 enc Try.prog Try.f4 Rows.fnStretchedIntervalsRow.domain false) (Rows.fnStretchedIntervalsSpec.post enc Try.prog Try.f4 false true false false) := by
  refine returnsInHanded_of_change (C := Try.checked) own started (by kernel_rfl) Try.func4
    (ChangeSpec.witness6 (enc := enc) (C := Try.checked) false ⟨#[], #[.slice none 0 0, .slice none 0 0], []⟩ 8 (by kernel_rfl) (by kernel_rfl) (by kernel_rfl) (by kernel_rfl)) ?_
  intro W base args ds gs before hval0 hW hcnd _
  have hval : ∀ (j : Nat) t v, Try.f4.params[j]? = some t → args[j]? = some v → Value.okWide Try.prog W .any base t v := hval0
  have hW' := hW
  obtain ⟨p, q, hA0, hV, rfl, hfz, hnd⟩ := hW
  have hA : DataW.TrodAll enc Try.prog W 0 (fun _ => true) true Try.f4.params.toList args.toList ds p := hA0
  rw [Try.params4] at hA hval
  obtain ⟨v0, vs0, d0, ds0, p0, q0, hargs, rfl, rfl, h0, r0⟩ := trodAll_cons hA
  obtain ⟨v1, vs1, d1, ds1, p1, q1, rfl, rfl, rfl, h1, r1⟩ := trodAll_cons r0
  obtain ⟨rfl, rfl, rfl⟩ := trodAll_nil r1
  obtain rfl : args = #[v0, v1] := by cases args; simp_all
  obtain ⟨rfl, rfl⟩ := trodVars_none hV
  have lt0 : ∀ x ∈ p0, x.block < W.heap.size := by obtain ⟨m, hm⟩ := h0; exact DataW.trod_lt m _ _ _ hm
  have lt1 : ∀ x ∈ p1, x.block < W.heap.size := by obtain ⟨m, hm⟩ := h1; exact DataW.trod_lt m _ _ _ hm
  obtain ⟨a0, len0, cap0, rfl⟩ := okWide_slice Try.underlying22 (hval 0 22 v0 rfl rfl)
  obtain ⟨a0, n0, cap0, e0, rd0, ln0⟩ := (by obtain ⟨fu, hf⟩ := h0; simp only [Value.cells] at hf; exact rdB_of_trod hf : ∃ (a : Option Addr) (n cap : Nat), Value.slice a0 len0 cap0 = .slice a n cap ∧ RdB W a n ∧ n ≤ 9223372036854775807)
  simp only [Value.slice.injEq] at e0
  obtain ⟨rfl, rfl, rfl⟩ := e0
  obtain ⟨a1, len1, cap1, rfl⟩ := okWide_slice Try.underlying22 (hval 1 22 v1 rfl rfl)
  obtain ⟨a1, n1, cap1, e1, rd1, ln1⟩ := (by obtain ⟨fu, hf⟩ := h1; simp only [Value.cells] at hf; exact rdB_of_trod hf : ∃ (a : Option Addr) (n cap : Nat), Value.slice a1 len1 cap1 = .slice a n cap ∧ RdB W a n ∧ n ≤ 9223372036854775807)
  simp only [Value.slice.injEq] at e1
  obtain ⟨rfl, rfl, rfl⟩ := e1
  clear hA0 hval0
  refine (walk a0 len0 cap0 a1 len1 cap1 W rd0 ln0 rd1 ln1).mono fun e W' ⟨he, bel⟩ => ?_
  subst he
  exact ⟨_, rfl, _, _, _, [], _, [], hW', trodAll_mk1 (shut_bool Try.underlying4 _), (trodAll_cons_mk (Below.trod laidOut (by kernel_rfl) (of_decide_eq_true (by kernel_rfl)) h0 bel lt0) (trodAll_cons_mk (Below.trod laidOut (by kernel_rfl) (of_decide_eq_true (by kernel_rfl)) h1 bel lt1) trodAll_mk0)), rfl, bel.frame _, fun h => by cases h⟩
theorem proved : Rows.FnStretchedIntervalsSaid :=
  OpenClaim.holds_of_wide 4 Try.f4 rfl rfl rfl rfl rfl rfl rfl ⟨rfl, rfl, rfl, rfl, rfl⟩ rfl rfl rfl rfl rfl (by kernel_rfl) Try.func4 (by kernel_rfl)
    (of_decide_eq_true (by kernel_rfl)) (by unfold Func.isWrapper; first | (rw [if_pos (by decide +kernel)]; kernel_rfl) | (rw [if_neg (by decide +kernel)]; exact ⟨rfl, rfl⟩))
    (fun os started H enc _ => lifted os started H enc)

end Go.Proofs.Ytdmhjmcljpladaa.stretchedIntervals
