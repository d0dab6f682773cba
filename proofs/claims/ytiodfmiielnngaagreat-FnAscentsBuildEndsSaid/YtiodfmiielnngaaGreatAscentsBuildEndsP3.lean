/- A part of the proof of YtiodfmiielnngaaGreatAscentsBuildEnds: contracts of functions. -/
import Derived.Test.YtiodfmiielnngaaGreatRows
import Derived.WalkKit
import Derived.WalkSpells
import Derived.WalkLawsBesides
import Derived.Deep.QuietTactic
import Derived.BigQuiet
import Derived.ProofKit
import Derived.OpenShut
import Derived.ShutString
import Derived.ChangeOld
import Derived.Below
import Derived.Lib.SmallJoins
import Derived.Lib.Hide
import Derived.Shelf.Small.Bits
import Derived.Shelf.Small.Wraps
import Derived.Shelf.Strconv.Itoa0
import Derived.Shelf.Sort.Plain
import Derived.Shelf.Slices.Reverse
import Derived.Shelf.Slices.Equal
import Derived.Shelf.Slices.CompactI
import Derived.Shelf.Slices.SearchI
import Derived.Shelf.Slices.Delete
import Derived.Shelf.Slices.Cells
import Derived.Shelf.Slices.In.SortNone
import Derived.Shelf.Slices.Empties
import Derived.Shelf.Slices.Empties2
import Derived.Shelf.SlicesE.Reverse
import Derived.Shelf.SlicesE.Delete
import Derived.Sort.OwnSortedInts
import Derived.Lib.SliceRun
import Derived.Deep.RegionLaw
import Derived.Maps.AppendAt
import Derived.Deep.AppendLies
import Derived.Lib.SlicesCompact
import Derived.Lib.RowBridge
import Derived.Deep.RegionHeld3
import Derived.Test.YtiodfmiielnngaaGreatAscentsBuildEndsP2
namespace Go.Proofs.YtiodfmiielnngaaGreat.ascentsBuildEnds
open Go Go.RowKit
set_option linter.unusedVariables false
set_option linter.unusedSimpArgs false
set_option maxHeartbeats 400000
open Go.Shelf
set_option maxRecDepth 100000 in
set_option maxHeartbeats 4000000 in
theorem buildIv_any (a : Option Addr) (cs : List Int) (n c K : Nat) (m : Int) (B : Nat) (w : World) (hown : OwnV w B (.slice a n c) n cs) (hB : B ≤ w.heap.size) (hn : n ≤ 9) (hm : 0 ≤ m ∧ m ≤ 20) (hK : K ≤ 10) (hb : ∀ j, j < n → 0 ≤ lft cs j ∧ lft cs j < (K : Int) ∧ 0 ≤ rgt cs j ∧ rgt cs j < (K : Int)) (hf : 0 < n → 0 < K ∧ lfS cs n = 2 ^ K - 1) (h0 : n = 0 → m = 0 ∧ K = 0) :
    Calls Tryz.prog 35 #[.slice a n c, .int .i64 m] w fun e w' => ∃ a' c', e = .returned (.slice a' (n+1) c') ∧ OwnV w' B (.slice a' (n+1) c') (n+1) (agL cs n m (K : Int)) ∧ w.grownBy w' (Value.slice a n c).ownBlock := by
  have HL := Lib.hid hown.len
  by_cases hz : n = 0
  · subst hz
    obtain ⟨rfl, rfl⟩ := h0 rfl
    have hcs : cs = [] := List.eq_nil_of_length_eq_zero (by have := HL.out; omega)
    subst hcs
    have HA : Hid (agL [] 0 0 0 = [0, 0]) := by simp [Hid, agL, opnB, dTo, opnV, prs, fmap]
    go_enter Tryz.func35, Tryz.ntmps35
    go_wp2_with fail
    go_ret
    exact ⟨some ⟨w.heap.size, 0, none⟩, 1, rfl, by rw [HA.out]; exact World.ownsRow_lit w #[.int .i64 0, .int .i64 0] 1 hB (by unfold maxLen; omega) rfl, World.grownBy_alloc _ _ _⟩
  · have ⟨hK0, hfull⟩ := hf (by omega)
    obtain ⟨g, rfl, hg0, hg1⟩ := hown.head (by omega)
    have HB := Lib.hid hb
    have HLS : Hid (∀ j, j ≤ n → lfS cs j < 1024) := lfS_small hK (fun j hj => ⟨(hb j hj).1, (hb j hj).2.1⟩)
    have HF := Lib.hid hfull
    have HEL := Lib.hid (elems_full ⟨K, by omega⟩)
    have hn0 : ((n : Int) == 0) = false := by simp; omega
    clear hb hf h0 hfull
    go_enter Tryz.func35, Tryz.ntmps35
    go_wp2_with fail
    go_loopw [5, 21] (fun s i wr => ∃ j : Nat, j ≤ n ∧ i = .int .i64 j ∧ s = .int .i64 ((lfS cs j : Nat) : Int) ∧ Below w.heap.size w wr) (fun _ i _ => n - (intOf i).toNat)
    case atStart => exact ⟨0, Nat.zero_le _, rfl, rfl, Below.refl _ _⟩
    case round =>
      obtain ⟨j, hj, rfl, rfl, hb⟩ := hrel
      have hbs := hb.size
      have o1 := hown.below hb (Nat.le_refl _)
      have hls := HLS.out j hj
      by_cases hlt : j < n
      · obtain ⟨b, off, e1, hbl, hc1, hc2⟩ := (o1.rd (by omega)).pair HL.out hlt
        simp only [Option.some.injEq, Addr.mk.injEq, and_true] at e1
        obtain ⟨rfl, rfl⟩ := e1
        rw [Nat.zero_add] at hc1 hc2
        have ⟨l0, l1, r0, r1⟩ := HB.out j hlt
        obtain ⟨L, hL⟩ := Int.eq_ofNat_of_zero_le l0
        have HN : Hid (lfS cs (j+1) = lfS cs j ||| 2 ^ L) := by rw [Hid, lfS, hL]; rfl
        rw [hL] at hc1 l1
        have HO := Lib.hid (or_bit (b := lfS cs j) (k := L) (by omega) (by omega))
        clear hL l0
        go_wp2_with fail
        go_roundw
        case rel => exact ⟨j + 1, by omega, by go_num, by rw [HO.out, HN.out], hb.alloc hbs _⟩
        case measure => simp [intOf]; omega
      · obtain rfl : j = n := by omega
        have HCE := Lib.hid (countElements_any (lfS cs j) wr hls)
        go_wp2_with fail
        refine HCE.out.mono ?_
        rintro e w2 ⟨rfl, rfl⟩
        rw [HF.out, HEL.out]
        go_wp2_with fail
        go_loopw [9, 36] (fun d i wr => ∃ q : Nat, q ≤ j ∧ i = .int .i64 q ∧ d = .int .i64 (dTo cs (K : Int) q) ∧ Below w.heap.size w wr) (fun _ i _ => j - (intOf i).toNat)
        case atStart => exact ⟨0, Nat.zero_le _, rfl, rfl, hb⟩
        case round =>
          clear hb hbs o1 hls HCE
          obtain ⟨q, hq, rfl, rfl, hb⟩ := hrel
          have hbs := hb.size
          have o1 := hown.below hb (Nat.le_refl _)
          have hdl := (dTo_le (cs := cs) (k := (K : Int)) (n := q)).1
          by_cases hlt2 : q < j
          · obtain ⟨b, off, e1, hbl, hc1, hc2⟩ := (o1.rd (by omega)).pair HL.out hlt2
            simp only [Option.some.injEq, Addr.mk.injEq, and_true] at e1
            obtain ⟨rfl, rfl⟩ := e1
            rw [Nat.zero_add] at hc1 hc2
            have ⟨l0, l1, r0, r1⟩ := HB.out q hlt2
            by_cases hr : rgt cs q = (K : Int) - 1
            · have HN : Hid (dTo cs (K : Int) (q+1) = min (dTo cs (K : Int) q) (lft cs q)) := by rw [Hid, dTo, if_pos hr]
              have hq1 : (rgt cs q == (K : Int) - 1) = true := by simp [hr]
              clear hr
              go_wp2_with fail
              go_roundw
              case rel => exact ⟨q + 1, by omega, by go_num, val_int (by rw [HN.out] <;> (first | rfl | omega | (split <;> omega))), hb.alloc hbs _⟩
              case measure => simp [intOf]; omega
            · have HN : Hid (dTo cs (K : Int) (q+1) = dTo cs (K : Int) q) := by rw [Hid, dTo, if_neg hr]
              have hq1 : (rgt cs q == (K : Int) - 1) = false := by simp [hr]
              clear hr
              go_wp2_with fail
              go_roundw
              case rel => exact ⟨q + 1, by omega, by go_num, by rw [HN.out], hb.alloc hbs _⟩
              case measure => simp [intOf]; omega
          · obtain rfl : q = j := by omega
            have g2 : (0 : Int) < (K : Int) := by omega
            by_cases hmd : m ≤ dTo cs (K : Int) q
            · have HA : Hid (agL cs q m (K : Int) = cs ++ [m, (K : Int) - 1]) := by
                have : opnB cs q m (K : Int) = false := by simp [opnB, hmd, hK0]
                simp [Hid, agL, this]
              go_wp2_with (at_builtin; refine push_iv rfl _ _ rfl rfl rfl o1 rfl (by omega) (by omega) ?_; intro v5 w5 o5 hg5 hat5)
              obtain ⟨a5, c5, rfl⟩ := o5.form
              go_ret
              exact ⟨a5, c5, rfl, by rw [HA.out]; exact o5, grown_trans (below_grown hb (Nat.le_refl _) _) hg5⟩
            · have HA : Hid (agL cs q m (K : Int) = opnV cs m (K : Int) q ++ [m, (K : Int)]) := by
                have : opnB cs q m (K : Int) = true := by simp [opnB, hmd]
                simp [Hid, agL, this]
              have o2 : OwnV wr B (.slice (some ⟨g, 0, none⟩) q c) q (mixV cs m (K : Int) q 0) := by rw [mixV_zero HL.out]; exact o1
              have hg2 : w.grownBy wr (some g) := below_grown hb (Nat.le_refl _) _
              go_wp2_with fail
              go_loopw [62] (fun i wi => ∃ p : Nat, p ≤ q ∧ i = .int .i64 p ∧ OwnV wi B (.slice (some ⟨g, 0, none⟩) q c) q (mixV cs m (K : Int) q p) ∧ w.grownBy wi (some g)) (fun i _ => q - (intOf i).toNat)
              case atStart => exact ⟨0, Nat.zero_le _, rfl, o2, hg2⟩
              case round =>
                clear hb hbs o1 o2 hg2
                obtain ⟨p, hp, rfl, hown2, hgw⟩ := hrel
                by_cases hlt3 : p < q
                · have hml := mixV_len cs m (K : Int) q p
                  have ⟨c1, f1⟩ := hown2.at' (i := p * 2) (by omega)
                  have ⟨c2, f2⟩ := hown2.at' (i := p * 2 + 1) (by omega)
                  have e1 : nth (mixV cs m (K : Int) q p) (p * 2) = lft cs p := mixV_lft hlt3 (Nat.le_refl _)
                  have e2 : nth (mixV cs m (K : Int) q p) (p * 2 + 1) = rgt cs p := mixV_rgt hlt3 (Nat.le_refl _)
                  rw [e1] at c1
                  rw [e2] at c2
                  have ⟨l0, l1, r0, r1⟩ := HB.out p hlt3
                  have HX : Hid (((mixV cs m (K : Int) q p).set (p * 2) (opnL (lft cs p) m)).set (p * 2 + 1) (opnR (lft cs p) (rgt cs p) m (K : Int)) = mixV cs m (K : Int) q (p+1)) := mixV_next hlt3
                  have hgl := (hown2.lt g rfl).2
                  have hBg := (hown2.lt g rfl).1
                  clear e1 e2
                  go_wp2_with fail
                  refine (openAt_any _ _ _ _ _ (by omega) (by omega) hm (by omega)).mono ?_
                  rintro e w3 ⟨rfl, hb3⟩
                  have ht3 : Below wr.heap.size wr w3 := Below.trans (by repeat (first | exact Below.refl _ _ | assumption | refine Below.alloc ?_ (by first | exact Nat.le_refl _ | (simp only [World.size_alloc, World.size_setCell, World.size_drew]; omega) | omega) _ | refine Below.setCell ?_ (by first | exact Nat.le_refl _ | (simp only [World.size_alloc, World.size_setCell, World.size_drew]; omega) | omega) _ | refine Below.drew ?_)) (hb3.mono (by first | (simp only [World.size_alloc, World.size_setCell, World.size_drew]; omega) | omega))
                  have o3 := hown2.below ht3 (Nat.le_refl _)
                  have ⟨c3, f3⟩ := o3.at' (i := p * 2) (by omega)
                  have ⟨c4, f4⟩ := o3.at' (i := p * 2 + 1) (by omega)
                  have q1 := o3.put (p * 2) (opnL (lft cs p) m)
                  have q2 := q1.1.put (p * 2 + 1) (opnR (lft cs p) (rgt cs p) m (K : Int))
                  rw [HX.out] at q2
                  have HQ2 := Lib.hid (And.intro q2.1 (grown_trans (grown_trans (grown_trans hgw (below_grown ht3 (Nat.le_refl _) _)) q1.2) q2.2))
                  clear hown2 q1 q2 hml c1 f1 c2 f2 hgw
                  go_wp2_with fail
                  go_roundw
                  case rel => exact ⟨p + 1, by omega, by go_num, HQ2.out.1, HQ2.out.2⟩
                  case measure => simp [intOf]; omega
                · obtain rfl : p = q := by omega
                  rw [mixV_all] at hown2
                  have hgs := hgw.size
                  go_wp2_with (at_builtin; refine push_iv rfl _ _ rfl rfl rfl hown2 rfl (by omega) (by omega) ?_; intro v5 w5 o5 hg5 hat5)
                  obtain ⟨a5, c5, rfl⟩ := o5.form
                  go_ret
                  exact ⟨a5, c5, rfl, by rw [HA.out]; exact o5, grown_trans hgw hg5⟩

theorem noClimb_any (w : World) :
    Calls Tryz.prog 65 #[] w fun e w' => e = .returned (.agg #[.int .i64 (-1), .int .i64 (-1)]) ∧ Below w.heap.size w w' := by
  go_enter Tryz.func65, Tryz.ntmps65
  go_wp2
  refine bodyPost_ret (v := .agg #[.int .i64 (-1), .int .i64 (-1)]) (by simp [results, Tryz.results65, go_sem]) rfl ⟨rfl, ?_⟩
  exact (by repeat (first | exact Below.refl _ _ | assumption | refine Below.alloc ?_ (by first | exact Nat.le_refl _ | (simp only [World.size_alloc, World.size_setCell, World.size_drew]; omega) | omega) _ | refine Below.setCell ?_ (by first | exact Nat.le_refl _ | (simp only [World.size_alloc, World.size_setCell, World.size_drew]; omega) | omega) _ | refine Below.drew ?_))
theorem greatest_any (l c : Int) (w : World) (h0 : -1 ≤ c) (h1 : c ≤ 1000) :
    Calls Tryz.prog 66 #[.agg #[.int .i64 l, .int .i64 c]] w fun e w' => e = .returned (.int .i64 (c + 1)) ∧ Below w.heap.size w w' := by
  go_enter Tryz.func66, Tryz.ntmps66
  go_wp2
  go_ret
  exact ⟨rfl, (by repeat (first | exact Below.refl _ _ | assumption | refine Below.alloc ?_ (by first | exact Nat.le_refl _ | (simp only [World.size_alloc, World.size_setCell, World.size_drew]; omega) | omega) _ | refine Below.setCell ?_ (by first | exact Nat.le_refl _ | (simp only [World.size_alloc, World.size_setCell, World.size_drew]; omega) | omega) _ | refine Below.drew ?_))⟩
theorem by_any (l c x : Int) (w : World) (h0 : -1 ≤ c) (h1 : c ≤ 1000) :
    Calls Tryz.prog 67 #[.agg #[.int .i64 l, .int .i64 c], .int .i64 x] w fun e w' => e = .returned (.agg #[.int .i64 x, .int .i64 (byA l c x)]) ∧ Below w.heap.size w w' := by
  by_cases h : l < x
  · have H : Hid (byA l c x = c + 1) := by simp [Hid, byA, h]
    go_enter Tryz.func67, Tryz.ntmps67
    go_wp2
    refine bodyPost_ret (v := .agg #[.int .i64 x, .int .i64 (c + 1)]) (by simp [results, Tryz.results67, go_sem]) rfl ⟨by rw [H.out], ?_⟩
    exact (by repeat (first | exact Below.refl _ _ | assumption | refine Below.alloc ?_ (by first | exact Nat.le_refl _ | (simp only [World.size_alloc, World.size_setCell, World.size_drew]; omega) | omega) _ | refine Below.setCell ?_ (by first | exact Nat.le_refl _ | (simp only [World.size_alloc, World.size_setCell, World.size_drew]; omega) | omega) _ | refine Below.drew ?_))
  · have H : Hid (byA l c x = c) := by simp [Hid, byA, h]
    go_enter Tryz.func67, Tryz.ntmps67
    go_wp2
    refine bodyPost_ret (v := .agg #[.int .i64 x, .int .i64 c]) (by simp [results, Tryz.results67, go_sem]) rfl ⟨by rw [H.out], ?_⟩
    exact (by repeat (first | exact Below.refl _ _ | assumption | refine Below.alloc ?_ (by first | exact Nat.le_refl _ | (simp only [World.size_alloc, World.size_setCell, World.size_drew]; omega) | omega) _ | refine Below.setCell ?_ (by first | exact Nat.le_refl _ | (simp only [World.size_alloc, World.size_setCell, World.size_drew]; omega) | omega) _ | refine Below.drew ?_))

theorem iIsAscent_any (a : Option Addr) (xs : List Int) (cap : Nat) (w : World) (hx : Rd w a xs) :
    Calls Tryz.prog 34 #[.slice a xs.length cap] w fun e w' => e = .returned (.bool (ascB xs)) ∧ Below w.heap.size w w' := by
  have hlen := hx.len
  by_cases hl : xs.length ≤ 12
  · go_enter Tryz.func34, Tryz.ntmps34
    go_wp2_with fail
    refine (noClimb_any _).mono ?_
    rintro e w1 ⟨rfl, hb1⟩
    have hz1 := hb1.size
    have V1 : Var2 (w1.alloc (.cells #[.int .i64 (-1), .int .i64 (-1)] 89)) w1.heap.size (.int .i64 (-1)) (.int .i64 (-1)) := Var2.new w1 _ _ _
    have b2 : Below w.heap.size w (w1.alloc (.cells #[.int .i64 (-1), .int .i64 (-1)] 89)) := hb1.alloc hz1 _
    go_wp2_with fail
    obtain ⟨g, hg⟩ : ∃ g, g = w1.heap.size := ⟨_, rfl⟩
    rw [← hg] at V1 hz1 ⊢
    clear hg
    go_loopw [12] (fun i wr => ∃ k : Nat, k ≤ xs.length ∧ i = .int .i64 k ∧ (∀ j, j < k → ascOk xs j = true) ∧ Var2 wr g (.int .i64 (clLast xs k)) (.int .i64 (clAsc xs k)) ∧ Below w.heap.size w wr) (fun i _ => xs.length - (intOf i).toNat)
    case atStart => exact ⟨0, Nat.zero_le _, rfl, fun j hj => by omega, V1, b2⟩
    case round =>
      clear V1 b2 hb1
      obtain ⟨k, hk, rfl, hall, hV, hb⟩ := hrel
      have HA := Lib.hid hall
      have ⟨⟨zV, cV, dV⟩, fV, gV⟩ := hV
      have ⟨ca0, ca1⟩ := clAsc_lt xs k
      clear hall
      by_cases hlt : k < xs.length
      · have hxr := hx.below hb
        obtain ⟨b, off, rfl, hbl, hc⟩ := hxr.cell k hlt
        by_cases h0 : nth xs k < 0
        · have HO : Hid (ascB xs = false) := ascB_no hlt (by rw [ascOk, inB_no]; omega)
          go_wp2_with fail
          go_ret
          exact ⟨ret_bool HO.out.symm, hb⟩
        · by_cases h1 : clAsc xs k + 1 < nth xs k
          · have HO : Hid (ascB xs = false) := ascB_no hlt (by rw [ascOk, inB_no, ← clAsc_bnd]; omega)
            go_wp2_with fail
            refine (greatest_any _ _ _ ca0 (by omega)).mono ?_
            rintro e w2 ⟨rfl, hb2⟩
            go_wp2_with fail
            go_ret
            exact ⟨ret_bool HO.out.symm, hb.trans (hb2.mono hb.size)⟩
          · have HM : Hid (ascOk xs k = true) := by rw [Hid, ascOk, inB_iff, ← clAsc_bnd]; omega
            have HS : Hid (byA (clLast xs k) (clAsc xs k) (nth xs k) = clAsc xs (k+1)) := clAsc_succ (by omega)
            have HL : Hid (clLast xs (k+1) = nth xs k) := clLast_succ xs k
            go_wp2_with fail
            refine (greatest_any _ _ _ ca0 (by omega)).mono ?_
            rintro e w2 ⟨rfl, hb2⟩
            have V2 := hV.below hb2
            have ⟨⟨zV2, cV2, dV2⟩, fV2, gV2⟩ := V2
            clear cV dV fV gV
            go_wp2_with fail
            refine (by_any _ _ _ _ ca0 (by omega)).mono ?_
            rintro e w3 ⟨rfl, hb3⟩
            have V3 := V2.below hb3
            have ⟨⟨zV3, cV3, dV3⟩, fV3, gV3⟩ := V3
            clear cV2 dV2 fV2 gV2
            rw [HS.out]
            have b3 : Below w.heap.size w w3 := (hb.trans (hb2.mono hb.size)).trans (hb3.mono (Nat.le_trans hb.size hb2.size))
            go_wp2_with fail
            go_roundw
            case rel =>
              refine ⟨k + 1, by omega, by go_num, fun j hj => ?_, by rw [HL.out]; exact V3.set _ _, (b3.setCell (p := ⟨g, 0, none⟩) hz1 _).setCell (p := ⟨g, 1, none⟩) hz1 _⟩
              by_cases e : j = k
              · rw [e]; exact HM.out
              · exact HA.out j (by omega)
            case measure => simp [intOf]; omega
      · obtain rfl : k = xs.length := by omega
        have HO : Hid (ascB xs = true) := ascB_iff.2 ⟨hl, HA.out⟩
        go_wp2_with fail
        go_ret
        exact ⟨ret_bool HO.out.symm, hb⟩
  · have HO := Lib.hid (ascB_long hl)
    go_enter Tryz.func34, Tryz.ntmps34
    go_wp2_with fail
    go_ret
    exact ⟨ret_bool HO.out.symm, Below.refl _ _⟩

theorem ag_bd {xs : List Int} (h : ascB xs = true) {i : Nat} (hi : i < xs.length) (h10 : xs.length ≤ 10) :
    (0 ≤ nth xs i ∧ nth xs i ≤ 20) ∧ (0 ≤ (agC xs i).2 ∧ (agC xs i).2 ≤ 20) ∧ (∀ j, j < i → 0 ≤ lft (agC xs i).1 j ∧ lft (agC xs i).1 j ≤ 20 ∧ 0 ≤ rgt (agC xs i).1 j ∧ rgt (agC xs i).1 j ≤ 20) ∧ (0 < i → 0 < (agC xs i).2) := by
  have h1 := ascB_small h hi
  refine ⟨by omega, ?_⟩
  cases i with
  | zero => exact ⟨by simp [agC], fun j hj => by omega, fun h => by omega⟩
  | succ i =>
    have hp := ag_ok h i (by omega)
    have h2 := ascTo_le xs (i+1)
    have h3 := hp.asc
    refine ⟨by omega, fun j hj => ?_, fun _ => by omega⟩
    have := hp.bd j hj
    omega

theorem ag_no {xs : List Int} (h : agB xs = false) : agN xs = 0 ∧ agV xs = [] := by simp [agN, agV, h]
theorem ag_yes {xs : List Int} (h : agB xs = true) : agN xs = xs.length ∧ agV xs = (agC xs xs.length).1 := by simp [agN, agV, h]

theorem ag_nat {xs : List Int} (h : ascB xs = true) {i : Nat} (hi : i < xs.length) (h10 : xs.length ≤ 10) : ∃ K : Nat, (agC xs i).2 = (K : Int) ∧ K ≤ 10 ∧ (∀ j, j < i → 0 ≤ lft (agC xs i).1 j ∧ lft (agC xs i).1 j < (K : Int) ∧ 0 ≤ rgt (agC xs i).1 j ∧ rgt (agC xs i).1 j < (K : Int)) ∧ (0 < i → 0 < K ∧ lfS (agC xs i).1 i = 2 ^ K - 1) ∧ (i = 0 → nth xs i = 0 ∧ K = 0) := by
  cases i with
  | zero =>
    have h1 := ascB_nth h hi
    rw [bndTo_zero] at h1
    exact ⟨0, rfl, by omega, fun j hj => by omega, fun h => by omega, fun _ => ⟨by omega, rfl⟩⟩
  | succ i =>
    have hp := ag_ok h i (by omega)
    have h2 := ascTo_le xs (i+1)
    have h3 := hp.asc
    obtain ⟨K, hK⟩ := Int.eq_ofNat_of_zero_le (show 0 ≤ (agC xs (i+1)).2 by omega)
    have hb : ∀ j, j < i + 1 → 0 ≤ lft (agC xs (i+1)).1 j ∧ lft (agC xs (i+1)).1 j < (K : Int) ∧ 0 ≤ rgt (agC xs (i+1)).1 j ∧ rgt (agC xs (i+1)).1 j < (K : Int) := fun j hj => by
      have := hp.bd j hj
      omega
    exact ⟨K, hK, by omega, hb, fun _ => ⟨by omega, lfS_full (fun j hj => ⟨(hb j hj).1, (hb j hj).2.1⟩) (fun v h0 h1 => hp.all v h0 (by omega))⟩, fun h => by omega⟩
theorem iIntervals_any (a : Option Addr) (xs : List Int) (cap : Nat) (w : World) (hx : Rd w a xs) (_ : xs.length ≤ cap) :
    Calls Tryz.prog 8 #[.slice a xs.length cap] w (GotV w (agN xs) (agV xs) (agB xs)) := by
  have hlen := hx.len
  unfold GotV
  cases h : ascB xs
  · have HB : Hid (agB xs = false) := by simp [Hid, agB, h]
    have HN : Hid (agN xs = 0 ∧ agV xs = []) := by simp [Hid, agN, agV, HB.out]
    have HA := Lib.hid h
    clear h
    go_enter Tryz.func8, Tryz.ntmps8
    go_wp2_with fail
    refine (iIsAscent_any _ _ _ _ hx).mono ?_
    rintro e w1 ⟨rfl, hb⟩
    rw [HA.out]
    go_wp2_with fail
    refine bodyPost_ret (v := .tuple #[.slice none 0 0, .bool false]) (by simp [results, Tryz.results8, go_sem]) rfl ?_
    exact ⟨none, 0, by rw [HN.out.1, HB.out], by rw [HN.out.1, HN.out.2]; exact OwnV.nil _ _, hb⟩
  · by_cases h10 : xs.length ≤ 10
    · have HB : Hid (agB xs = true) := by simp [Hid, agB, h, h10]
      have HN : Hid (agN xs = xs.length ∧ agV xs = (agC xs xs.length).1) := by simp [Hid, agN, agV, HB.out]
      have HA := Lib.hid h
      clear h
      go_enter Tryz.func8, Tryz.ntmps8
      go_wp2_with fail
      refine (iIsAscent_any _ _ _ _ hx).mono ?_
      rintro e w1 ⟨rfl, hb⟩
      rw [HA.out]
      go_wp2_with fail
      go_loopw [4, 17] (fun v i wr => ∃ j : Nat, j ≤ xs.length ∧ i = .int .i64 j ∧ OwnV wr w.heap.size v j (agC xs j).1 ∧ Below w.heap.size w wr) (fun _ i _ => xs.length - (intOf i).toNat)
      case atStart => exact ⟨0, Nat.zero_le _, rfl, OwnV.nil _ _, hb⟩
      case round =>
        clear hb
        obtain ⟨j, hj, rfl, hown, hb⟩ := hrel
        have hbs := hb.size
        obtain ⟨av, cv, rfl⟩ := hown.form
        by_cases hlt : j < xs.length
        · obtain ⟨b, off, rfl, hbl, hc⟩ := (hx.below hb).cell j hlt
          have ⟨K, hK, hK10, hbd, hfull, hz⟩ := ag_nat HA.out hlt h10
          have ⟨x0, x1⟩ := ascB_small HA.out hlt
          have HN1 : Hid ((agC xs (j+1)).1 = agL (agC xs j).1 j (nth xs j) (K : Int)) := by rw [Hid, ← hK]; rfl
          have hcall := buildIv_any av (agC xs j).1 j cv K (nth xs j) w.heap.size wr hown hbs (by omega) ⟨x0, by omega⟩ hK10 hbd hfull hz
          have HCL := Lib.hid hcall
          have hlt4 := Lib.hid hown.lt
          clear hcall hK hbd hfull hz hown
          go_wp2_with fail
          refine HCL.out.mono ?_
          rintro e w2 ⟨a2, c2, rfl, ho2, hg2⟩
          go_wp2_with fail
          go_roundw
          case rel => exact ⟨j + 1, by omega, by go_num, by rw [HN1.out]; exact ho2, hb.trans (below_of_grown hg2 (fun c e => (hlt4.out c e).1) hbs)⟩
          case measure => simp [intOf]; omega
        · obtain rfl : j = xs.length := by omega
          go_wp2_with fail
          refine bodyPost_ret (v := .tuple #[.slice av xs.length cv, .bool true]) (by simp [results, Tryz.results8, go_sem]) rfl ?_
          exact ⟨av, cv, by rw [HN.out.1, HB.out], by rw [HN.out.1, HN.out.2]; exact hown, hb⟩
    · have HB : Hid (agB xs = false) := by simp [Hid, agB, h10]
      have HN : Hid (agN xs = 0 ∧ agV xs = []) := by simp [Hid, agN, agV, HB.out]
      have HA := Lib.hid h
      clear h
      go_enter Tryz.func8, Tryz.ntmps8
      go_wp2_with fail
      refine (iIsAscent_any _ _ _ _ hx).mono ?_
      rintro e w1 ⟨rfl, hb⟩
      rw [HA.out]
      go_wp2_with fail
      refine bodyPost_ret (v := .tuple #[.slice none 0 0, .bool false]) (by simp [results, Tryz.results8, go_sem]) rfl ?_
      exact ⟨none, 0, by rw [HN.out.1, HB.out], by rw [HN.out.1, HN.out.2]; exact OwnV.nil _ _, hb⟩

theorem l1Least_any (x y : Int) (w : World) :
    Calls Tryz.prog 99 #[.int .i64 x, .int .i64 y] w fun e w' => e = .returned (.int .i64 (min x y)) ∧ w = w' := by
  by_cases h : x < y
  · have H : Hid (min x y = x) := by rw [Hid]; omega
    go_enter Tryz.func99, Tryz.ntmps99
    go_wp2
    go_ret
    exact ⟨ret_int H.out.symm, rfl⟩
  · have H : Hid (min x y = y) := by rw [Hid]; omega
    go_enter Tryz.func99, Tryz.ntmps99
    go_wp2
    go_ret
    exact ⟨ret_int H.out.symm, rfl⟩

theorem ownV_lit (w : World) (B : Nat) (hB : B ≤ w.heap.size) : OwnV (w.alloc (.cells #[] 65)) B (.slice (some ⟨w.heap.size, 0, none⟩) 0 0) 0 [] := World.ownsRow_lit w #[] 0 hB (by simp [maxLen]) (by simp)
/-- a whole row of pairs at the end of a row that is owned -/
theorem append_rdV {w : World} {ops : Array Oper} {rest : List Oper} {o : Oper} {a : Act} {Q : Exit → Act → World → Prop} (hgd : o.guard = none) (s x : Operand)
    (ho : o.op = .call { callee := .builtin .append, args := #[s, x], argTypes := #[26, 26] })
    (base : Nat) (v : Value) (m : Nat) (zs : List Int) (hs : a.eval s = v) (hown : OwnV w base v m zs) (ad : Option Addr) (xs : List Int) (n cap : Nat) (hx : a.eval x = .slice ad n cap) (hr : Rd w ad xs) (hl : xs.length = n * 2)
    (hsm : m + n ≤ 1000) (hbase : base ≤ w.heap.size)
    (h : ∀ v' w', OwnV w' base v' (m + n) (zs ++ xs) → w.grownBy w' v.ownBlock → wpList Tryz.prog ops Q rest (a.put o.dst v') w') : wpList Tryz.prog ops Q (o :: rest) a w := by
  obtain ⟨i0, hi, hz0, hz1, hz2⟩ := info_parts infoIv
  cases ad with
  | none =>
    have h0 : xs = [] := by
      rcases xs with _ | ⟨y, t⟩
      · rfl
      · obtain ⟨b, off, e, _⟩ := hr.cell 0 (by simp)
        cases e
    subst h0
    obtain rfl : n = 0 := by simp at hl; omega
    exact wpList_append_none hgd s x 26 ho base 65 i0 2 Tryz.underlying26 hi v m cap (zs.map (Value.int .i64)) hs hown hx (h v w (by rw [List.append_nil]; exact hown) (World.grownBy.refl _ _))
  | some ad =>
    refine wpList_append_own _ hgd s x 26 ho base 65 i0 (.agg #[.int .i64 0, .int .i64 0]) 2 16 Tryz.underlying26 hi hz0 hz1 hz2 rfl (by decide) v m (zs.map (Value.int .i64)) hs hown ad n cap (xs.map (Value.int .i64)) hx (by simp [hl]) (rd_news hr) (ints_one xs) (by unfold maxLen; omega) (by omega) hbase ?_
    intro v' w' h1 h2 _
    refine h v' w' ?_ h2
    unfold OwnV
    rw [List.map_append]
    exact h1

set_option maxRecDepth 100000 in
set_option maxHeartbeats 4000000 in
theorem asGrow_any (a : Option Addr) (cs : List Int) (n cap : Nat) (m k : Int) (w : World) (hx : Rd w a cs) (hl : cs.length = n * 2) (hn : n ≤ 20) (hm : 0 ≤ m ∧ m ≤ 20) (hk : 0 ≤ k ∧ k ≤ 20) (hb : ∀ j, j < n → 0 ≤ lft cs j ∧ lft cs j ≤ 20 ∧ 0 ≤ rgt cs j ∧ rgt cs j ≤ 20) (hnk : 0 < n → 0 < k) :
    Calls Tryz.prog 71 #[.slice a n cap, .int .i64 m, .int .i64 k] w fun e w' => ∃ a' cap', e = .returned (.tuple #[.slice a' (n+1) cap', .int .i64 (agK cs n m k)]) ∧ OwnV w' w.heap.size (.slice a' (n+1) cap') (n+1) (agL cs n m k) ∧ Below w.heap.size w w' := by
  obtain ⟨i0, hi, hz0, hz1, hz2⟩ := info_parts infoIv
  have HL := Lib.hid hl
  have HB := Lib.hid hb
  have HD : Hid (∀ j, dTo cs k j ≤ k) := fun j => (dTo_le (cs := cs) (k := k) (n := j)).1
  clear hl hb
  go_enter Tryz.func71, Tryz.ntmps71
  go_wp2_with fail
  go_loopw [8, 18] (fun d i wr => ∃ j : Nat, j ≤ n ∧ i = .int .i64 j ∧ d = .int .i64 (dTo cs k j) ∧ Below w.heap.size w wr) (fun _ i _ => n - (intOf i).toNat)
  case atStart => exact ⟨0, Nat.zero_le _, rfl, rfl, Below.refl _ _⟩
  case round =>
    obtain ⟨j, hj, rfl, rfl, hb⟩ := hrel
    have hbs := hb.size
    have hd := HD.out j
    by_cases hlt : j < n
    · obtain ⟨b, off, rfl, hbl, hc1, hc2⟩ := (hx.below hb).pair HL.out hlt
      by_cases hr : rgt cs j = k - 1
      · have HN : Hid (dTo cs k (j+1) = min (dTo cs k j) (lft cs j)) := by rw [Hid, dTo, if_pos hr]
        have hq : (rgt cs j == k - 1) = true := by simp [hr]
        have HR := Lib.hid hr
        clear hr
        go_wp2_with fail
        refine (l1Least_any _ _ _).mono ?_
        rintro e w2 ⟨rfl, rfl⟩
        go_wp2_with fail
        go_roundw
        case rel => exact ⟨j + 1, by omega, by go_num, by rw [HN.out], hb.alloc hbs _⟩
        case measure => simp [intOf]; omega
      · have HN : Hid (dTo cs k (j+1) = dTo cs k j) := by rw [Hid, dTo, if_neg hr]
        have hq : (rgt cs j == k - 1) = false := by simp [hr]
        clear hr
        go_wp2_with fail
        go_roundw
        case rel => exact ⟨j + 1, by omega, by go_num, by rw [HN.out], hb.alloc hbs _⟩
        case measure => simp [intOf]; omega
    · obtain rfl : j = n := by omega
      cases hob : opnB cs j m k
      · have h2 := of_decide_eq_false hob
        have ⟨g1, g2⟩ : m ≤ dTo cs k j ∧ 0 < k := Classical.byContradiction fun h => h2 h
        have HL1 : Hid (agL cs j m k = cs ++ [m, k - 1]) := by simp [Hid, agL, hob]
        have HK1 : Hid (agK cs j m k = k) := by simp [Hid, agK, hob]
        have ownL := ownV_lit wr w.heap.size hbs
        have bl : Below w.heap.size w (wr.alloc (.cells #[] 65)) := hb.alloc hbs _
        have hxl := (hx.below hb).alloc (.cells #[] 65)
        clear hob h2
        go_wp2_with (first | (at_builtin; have _t := ownL; refine append_rdV rfl _ _ rfl w.heap.size _ 0 [] rfl ownL _ cs j cap rfl hxl HL.out (by omega) bl.size ?_; intro v4 w4 o4 hg4; have b4 := bl.trans (below_of_grown hg4 (fun c e => by have := (ownL.lt c e).1; omega) bl.size); rw [Nat.zero_add, List.nil_append] at o4; clear ownL) | (at_builtin; have _t := o4; refine push_iv rfl _ _ rfl rfl rfl o4 rfl (by omega) b4.size ?_; intro v5 w5 o5 hg5 hat5))
        have b5 := b4.trans (below_of_grown hg5 (fun c e => (o4.lt c e).1) b4.size)
        obtain ⟨a5, c5, rfl⟩ := o5.form
        refine bodyPost_ret (v := .tuple #[.slice a5 (j + 1) c5, .int .i64 k]) (by simp [results, Tryz.results71, go_sem]) rfl ?_
        exact ⟨a5, c5, by rw [HK1.out], by rw [HL1.out]; exact o5, b5⟩
      · have HL1 : Hid (agL cs j m k = opnV cs m k j ++ [m, k]) := by simp [Hid, agL, hob]
        have HK1 : Hid (agK cs j m k = k + 1) := by simp [Hid, agK, hob]
        have h2 : ¬ (m ≤ dTo cs k j ∧ 0 < k) := of_decide_eq_true hob
        have hor : ¬ m ≤ dTo cs k j ∨ (m ≤ dTo cs k j ∧ ¬ 0 < k) := by
          by_cases h : m ≤ dTo cs k j
          · exact .inr ⟨h, fun h3 => h2 ⟨h, h3⟩⟩
          · exact .inl h
        clear hob h2
        rcases hor with g1 | ⟨g1, g2⟩
        · go_wp2_with fail
          go_loopw [11, 51] (fun v i wr => ∃ q : Nat, q ≤ j ∧ i = .int .i64 q ∧ OwnV wr w.heap.size v q (opnV cs m k q) ∧ Below w.heap.size w wr) (fun _ i _ => j - (intOf i).toNat)
          case atStart => exact ⟨0, Nat.zero_le _, rfl, OwnV.nil _ _, hb⟩
          case round =>
            clear hb hbs
            obtain ⟨q, hq, rfl, hown, hb⟩ := hrel
            have hbs := hb.size
            obtain ⟨av, cv, rfl⟩ := hown.form
            by_cases hlt2 : q < j
            · obtain ⟨b, off, ea, hbl, hc1, hc2⟩ := (hx.below hb).pair HL.out hlt2
              subst ea
              have ⟨l0, l1, r0, r1⟩ := HB.out q hlt2
              have HS : Hid (opnV cs m k (q+1) = opnV cs m k q ++ [opnL (lft cs q) m, opnR (lft cs q) (rgt cs q) m k]) := prs_succ _ _ _
              generalize hgl : lft cs q = L at *
              generalize hgr : rgt cs q = R at *
              clear hgl hgr
              by_cases hr : m ≤ R
              · by_cases he : R = k - 1
                · have hq1 : (R == k - 1) = true := by simp [he]
                  by_cases hl : L < m
                  · have hl2 : ¬ m ≤ L := by omega
                    have HLn : Hid (opnL L m = L) := by rw [Hid, opnL]; split <;> omega
                    have HRn : Hid (opnR L R m k = m) := by rw [Hid, opnR]; (repeat split) <;> omega
                    clear he
                    have own2 := ((hown.alloc (.cells #[.int .i64 L, .int .i64 R] 65)).alloc (.cells #[.int .i64 (L), .int .i64 (m)] 65))
                    have b2 := (hb.alloc hbs (.cells #[.int .i64 L, .int .i64 R] 65)).alloc (by simp; omega) (.cells #[.int .i64 (L), .int .i64 (m)] 65)
                    clear hown
                    go_wp2_with (at_builtin; refine push_iv rfl _ _ rfl rfl rfl own2 (by simp) (by omega) (by simp; omega) ?_; intro v5 w5 o5 hg5 hat5)
                    go_roundw
                    case rel => exact ⟨q + 1, by omega, by go_num, by rw [HS.out, HLn.out, HRn.out]; exact o5, b2.trans (below_of_grown hg5 (fun c e => (own2.lt c e).1) (by simp; omega))⟩
                    case measure => simp [intOf]; omega
                  · have hl2 : m ≤ L := by omega
                    have HLn : Hid (opnL L m = L + 1) := by rw [Hid, opnL]; split <;> omega
                    have HRn : Hid (opnR L R m k = R + 1) := by rw [Hid, opnR]; (repeat split) <;> omega
                    clear he
                    have own2 := ((hown.alloc (.cells #[.int .i64 L, .int .i64 R] 65)).alloc (.cells #[.int .i64 (L + 1), .int .i64 (R + 1)] 65))
                    have b2 := (hb.alloc hbs (.cells #[.int .i64 L, .int .i64 R] 65)).alloc (by simp; omega) (.cells #[.int .i64 (L + 1), .int .i64 (R + 1)] 65)
                    clear hown
                    go_wp2_with (at_builtin; refine push_iv rfl _ _ rfl rfl rfl own2 (by simp) (by omega) (by simp; omega) ?_; intro v5 w5 o5 hg5 hat5)
                    go_roundw
                    case rel => exact ⟨q + 1, by omega, by go_num, by rw [HS.out, HLn.out, HRn.out]; exact o5, b2.trans (below_of_grown hg5 (fun c e => (own2.lt c e).1) (by simp; omega))⟩
                    case measure => simp [intOf]; omega
                · have hq1 : (R == k - 1) = false := by simp [he]
                  by_cases hl : L < m
                  · have hl2 : ¬ m ≤ L := by omega
                    have HLn : Hid (opnL L m = L) := by rw [Hid, opnL]; split <;> omega
                    have HRn : Hid (opnR L R m k = R + 1) := by rw [Hid, opnR]; (repeat split) <;> omega
                    clear he
                    have own2 := ((hown.alloc (.cells #[.int .i64 L, .int .i64 R] 65)).alloc (.cells #[.int .i64 (L), .int .i64 (R + 1)] 65))
                    have b2 := (hb.alloc hbs (.cells #[.int .i64 L, .int .i64 R] 65)).alloc (by simp; omega) (.cells #[.int .i64 (L), .int .i64 (R + 1)] 65)
                    clear hown
                    go_wp2_with (at_builtin; refine push_iv rfl _ _ rfl rfl rfl own2 (by simp) (by omega) (by simp; omega) ?_; intro v5 w5 o5 hg5 hat5)
                    go_roundw
                    case rel => exact ⟨q + 1, by omega, by go_num, by rw [HS.out, HLn.out, HRn.out]; exact o5, b2.trans (below_of_grown hg5 (fun c e => (own2.lt c e).1) (by simp; omega))⟩
                    case measure => simp [intOf]; omega
                  · have hl2 : m ≤ L := by omega
                    have HLn : Hid (opnL L m = L + 1) := by rw [Hid, opnL]; split <;> omega
                    have HRn : Hid (opnR L R m k = R + 1) := by rw [Hid, opnR]; (repeat split) <;> omega
                    clear he
                    have own2 := ((hown.alloc (.cells #[.int .i64 L, .int .i64 R] 65)).alloc (.cells #[.int .i64 (L + 1), .int .i64 (R + 1)] 65))
                    have b2 := (hb.alloc hbs (.cells #[.int .i64 L, .int .i64 R] 65)).alloc (by simp; omega) (.cells #[.int .i64 (L + 1), .int .i64 (R + 1)] 65)
                    clear hown
                    go_wp2_with (at_builtin; refine push_iv rfl _ _ rfl rfl rfl own2 (by simp) (by omega) (by simp; omega) ?_; intro v5 w5 o5 hg5 hat5)
                    go_roundw
                    case rel => exact ⟨q + 1, by omega, by go_num, by rw [HS.out, HLn.out, HRn.out]; exact o5, b2.trans (below_of_grown hg5 (fun c e => (own2.lt c e).1) (by simp; omega))⟩
                    case measure => simp [intOf]; omega
              · by_cases hl : L < m
                · have hl2 : ¬ m ≤ L := by omega
                  have HLn : Hid (opnL L m = L) := by rw [Hid, opnL]; split <;> omega
                  have HRn : Hid (opnR L R m k = R) := by rw [Hid, opnR]; (repeat split) <;> omega
                  have own2 := ((hown.alloc (.cells #[.int .i64 L, .int .i64 R] 65)).alloc (.cells #[.int .i64 (L), .int .i64 (R)] 65))
                  have b2 := (hb.alloc hbs (.cells #[.int .i64 L, .int .i64 R] 65)).alloc (by simp; omega) (.cells #[.int .i64 (L), .int .i64 (R)] 65)
                  clear hown
                  go_wp2_with (at_builtin; refine push_iv rfl _ _ rfl rfl rfl own2 (by simp) (by omega) (by simp; omega) ?_; intro v5 w5 o5 hg5 hat5)
                  go_roundw
                  case rel => exact ⟨q + 1, by omega, by go_num, by rw [HS.out, HLn.out, HRn.out]; exact o5, b2.trans (below_of_grown hg5 (fun c e => (own2.lt c e).1) (by simp; omega))⟩
                  case measure => simp [intOf]; omega
                · have hl2 : m ≤ L := by omega
                  have HLn : Hid (opnL L m = L + 1) := by rw [Hid, opnL]; split <;> omega
                  have HRn : Hid (opnR L R m k = R) := by rw [Hid, opnR]; (repeat split) <;> omega
                  have own2 := ((hown.alloc (.cells #[.int .i64 L, .int .i64 R] 65)).alloc (.cells #[.int .i64 (L + 1), .int .i64 (R)] 65))
                  have b2 := (hb.alloc hbs (.cells #[.int .i64 L, .int .i64 R] 65)).alloc (by simp; omega) (.cells #[.int .i64 (L + 1), .int .i64 (R)] 65)
                  clear hown
                  go_wp2_with (at_builtin; refine push_iv rfl _ _ rfl rfl rfl own2 (by simp) (by omega) (by simp; omega) ?_; intro v5 w5 o5 hg5 hat5)
                  go_roundw
                  case rel => exact ⟨q + 1, by omega, by go_num, by rw [HS.out, HLn.out, HRn.out]; exact o5, b2.trans (below_of_grown hg5 (fun c e => (own2.lt c e).1) (by simp; omega))⟩
                  case measure => simp [intOf]; omega
            · obtain rfl : q = j := by omega
              go_wp2_with (at_builtin; refine push_iv rfl _ _ rfl rfl rfl hown rfl (by omega) hbs ?_; intro v5 w5 o5 hg5 hat5)
              have b5 := hb.trans (below_of_grown hg5 (fun c e => (hown.lt c e).1) hbs)
              obtain ⟨a5, c5, rfl⟩ := o5.form
              refine bodyPost_ret (v := .tuple #[.slice a5 (q + 1) c5, .int .i64 (k + 1)]) (by simp [results, Tryz.results71, go_sem]) rfl ?_
              exact ⟨a5, c5, by rw [HK1.out], by rw [HL1.out]; exact o5, b5⟩
        · have hj0 : j = 0 := by
            apply Classical.byContradiction
            intro h
            exact g2 (hnk (by omega))
          subst hj0
          have HZ : Hid (opnV cs m k 0 = []) := rfl
          go_wp2_with fail
          go_loopw [11, 51] (fun v i wr => i = .int .i64 0 ∧ v = .slice none 0 0 ∧ Below w.heap.size w wr) (fun _ _ _ => 0)
          case atStart => exact ⟨rfl, rfl, hb⟩
          case round =>
            clear hb hbs
            obtain ⟨rfl, rfl, hb⟩ := hrel
            have hbs := hb.size
            go_wp2_with (at_builtin; refine push_iv rfl _ _ rfl rfl rfl (OwnV.nil wr w.heap.size) rfl (by omega) hbs ?_; intro v5 w5 o5 hg5 hat5)
            have b5 := hb.trans (below_of_grown hg5 (fun c e => by cases e) hbs)
            obtain ⟨a5, c5, rfl⟩ := o5.form
            refine bodyPost_ret (v := .tuple #[.slice a5 (0 + 1) c5, .int .i64 (k + 1)]) (by simp [results, Tryz.results71, go_sem]) rfl ?_
            exact ⟨a5, c5, by rw [HK1.out], by rw [HL1.out, HZ.out]; exact o5, b5⟩

theorem asIntervals_any (a : Option Addr) (xs : List Int) (cap : Nat) (w : World) (hx : Rd w a xs) (h : ascB xs = true) (h10 : xs.length ≤ 10) :
    Calls Tryz.prog 37 #[.slice a xs.length cap] w fun e w' => ∃ a' cap', e = .returned (.slice a' xs.length cap') ∧ OwnV w' w.heap.size (.slice a' xs.length cap') xs.length (agC xs xs.length).1 ∧ Below w.heap.size w w' := by
  have HA := Lib.hid h
  clear h
  go_enter Tryz.func37, Tryz.ntmps37
  go_wp2_with fail
  go_loopw [3, 4, 9] (fun v k i wr => ∃ j : Nat, j ≤ xs.length ∧ i = .int .i64 j ∧ k = .int .i64 (agC xs j).2 ∧ OwnV wr w.heap.size v j (agC xs j).1 ∧ Below w.heap.size w wr) (fun _ _ i _ => xs.length - (intOf i).toNat)
  case atStart => exact ⟨0, Nat.zero_le _, rfl, rfl, OwnV.nil _ _, Below.refl _ _⟩
  case round =>
    obtain ⟨j, hj, rfl, rfl, hown, hb⟩ := hrel
    have hbs := hb.size
    obtain ⟨av, cv, rfl⟩ := hown.form
    by_cases hlt : j < xs.length
    · have ⟨b1, b2, b3, b4⟩ := ag_bd HA.out hlt h10
      obtain ⟨b, off, rfl, hbl, hc⟩ := (hx.below hb).cell j hlt
      have HN1 : Hid ((agC xs (j+1)).1 = agL (agC xs j).1 j (nth xs j) (agC xs j).2) := rfl
      have HN2 : Hid ((agC xs (j+1)).2 = agK (agC xs j).1 j (nth xs j) (agC xs j).2) := rfl
      have HCL := Lib.hid (agC_len xs j)
      have hr := hown.rd (by omega)
      have HB3 := Lib.hid b3
      have HB4 := Lib.hid b4
      clear hown b3 b4
      go_wp2_with fail
      refine (asGrow_any _ (agC xs j).1 j _ _ _ _ hr HCL.out (by omega) b1 b2 HB3.out HB4.out).mono ?_
      rintro e w2 ⟨a2, c2, rfl, ho2, hb2⟩
      go_wp2_with fail
      go_roundw
      case rel => exact ⟨j + 1, by omega, by go_num, by rw [HN2.out], by rw [HN1.out]; exact ho2.mono hbs, hb.trans (hb2.mono hbs)⟩
      case measure => simp [intOf]; omega
    · obtain rfl : j = xs.length := by omega
      go_wp2_with fail
      go_ret
      exact ⟨av, cv, rfl, hown, hb⟩

theorem l1In_any (n lo hi : Int) (w : World) :
    Calls Tryz.prog 70 #[.int .i64 n, .int .i64 lo, .int .i64 hi] w fun e w' => e = .returned (.bool (inB n lo hi)) ∧ w = w' := by
  go_enter Tryz.func70, Tryz.ntmps70
  go_wp2
  all_goals (go_ret; exact ⟨ret_bool (by simp [inB]; try omega), rfl⟩)
theorem l1In_is {n lo hi : Int} {b : Bool} (h : inB n lo hi = b) (w : World) (m : Nat) :
    Calls Tryz.prog 70 #[.int .i64 n, .int .i64 lo, .int .i64 hi] (w.drewN m) fun e w' => e = .returned (.bool b) ∧ ∃ k, w' = w.drewN k :=
  Calls.quiet_of_same ((l1In_any n lo hi (w.drewN m)).mono (fun e w' hh => ⟨by rw [← h]; exact hh.1, hh.2.symm⟩))

theorem asGood_any (a : Option Addr) (xs : List Int) (cap : Nat) (w : World) (hx : Rd w a xs) (hcap : xs.length ≤ cap) :
    Calls Tryz.prog 36 #[.slice a xs.length cap] w fun e w' => e = .returned (.bool (ascB xs)) ∧ Below w.heap.size w w' := by
  have hlen := hx.len
  by_cases hl : xs.length ≤ 12
  · go_enter Tryz.func36, Tryz.ntmps36
    go_wp2_with fail
    go_loopw [10] (fun i wr => ∃ k : Nat, k ≤ xs.length ∧ i = .int .i64 k ∧ (∀ j, j < k → ascOk xs j = true) ∧ Below w.heap.size w wr) (fun i _ => xs.length - (intOf i).toNat)
    case atStart => exact ⟨0, Nat.zero_le _, rfl, fun j hj => by omega, Below.refl _ _⟩
    case round =>
      obtain ⟨k, hk, rfl, hall, hb⟩ := hrel
      have HA := Lib.hid hall
      clear hall
      by_cases hlt : k < xs.length
      · have hxr := hx.below hb
        obtain ⟨b, off, rfl, hbl, hc⟩ := hxr.cell k hlt
        have k1 : (k : Int) ≤ (cap : Int) := by omega
        have k0 : (0 : Int) ≤ (k : Int) := by omega
        cases hin : ascOk xs k
        · have HO : Hid (ascB xs = false) := ascB_no hlt hin
          have hin' : inB (nth xs k) 0 (bndTo xs k) = false := hin
          have HI := Lib.hid hin'
          clear hin hin'
          go_wp2_with fail
          refine (asBound_any _ xs k _ _ hxr hk).mono ?_
          rintro e w1 ⟨rfl, hb1⟩
          go_wp2_with fail
          refine (l1In_any _ _ _ _).mono ?_
          rintro e w' ⟨rfl, rfl⟩
          rw [HI.out]
          go_wp2_with fail
          go_ret
          exact ⟨ret_bool HO.out.symm, hb.trans (hb1.mono hb.size)⟩
        · have hin' : inB (nth xs k) 0 (bndTo xs k) = true := hin
          have HI := Lib.hid hin'
          have HM := Lib.hid hin
          clear hin hin'
          go_wp2_with fail
          refine (asBound_any _ xs k _ _ hxr hk).mono ?_
          rintro e w1 ⟨rfl, hb1⟩
          go_wp2_with fail
          refine (l1In_any _ _ _ _).mono ?_
          rintro e w' ⟨rfl, rfl⟩
          rw [HI.out]
          go_wp2_with fail
          go_roundw
          case rel =>
            refine ⟨k + 1, by omega, by go_num, fun j hj => ?_, hb.trans (hb1.mono hb.size)⟩
            by_cases e : j = k
            · rw [e]; exact HM.out
            · exact HA.out j (by omega)
          case measure => simp [intOf]; omega
      · obtain rfl : k = xs.length := by omega
        have HO : Hid (ascB xs = true) := ascB_iff.2 ⟨hl, HA.out⟩
        go_wp2_with fail
        go_ret
        exact ⟨ret_bool HO.out.symm, hb⟩
  · have HO := Lib.hid (ascB_long hl)
    go_enter Tryz.func36, Tryz.ntmps36
    go_wp2_with fail
    go_ret
    exact ⟨ret_bool HO.out.symm, Below.refl _ _⟩

theorem sIntervals_any (a : Option Addr) (xs : List Int) (cap : Nat) (w : World) (hx : Rd w a xs) (hcap : xs.length ≤ cap) :
    Calls Tryz.prog 9 #[.slice a xs.length cap] w (GotV w (agN xs) (agV xs) (agB xs)) := by
  have hlen := hx.len
  unfold GotV
  cases h : ascB xs
  · have HB : Hid (agB xs = false) := by simp [Hid, agB, h]
    have HN := Lib.hid (ag_no HB.out)
    have HA := Lib.hid h
    clear h
    go_enter Tryz.func9, Tryz.ntmps9
    go_wp2_with fail
    refine (asGood_any _ _ _ _ hx hcap).mono ?_
    rintro e w1 ⟨rfl, hb⟩
    rw [HA.out]
    go_wp2_with fail
    refine bodyPost_ret (v := .tuple #[.slice none 0 0, .bool false]) (by simp [results, Tryz.results9, go_sem]) rfl ?_
    exact ⟨none, 0, by rw [HN.out.1, HB.out], by rw [HN.out.1, HN.out.2]; exact OwnV.nil _ _, hb⟩
  · by_cases h10 : xs.length ≤ 10
    · have HB : Hid (agB xs = true) := by simp [Hid, agB, h, h10]
      have HN := Lib.hid (ag_yes HB.out)
      have HA := Lib.hid h
      clear h
      go_enter Tryz.func9, Tryz.ntmps9
      go_wp2_with fail
      refine (asGood_any _ _ _ _ hx hcap).mono ?_
      rintro e w1 ⟨rfl, hb⟩
      rw [HA.out]
      go_wp2_with fail
      refine (asIntervals_any _ _ _ _ (hx.below hb) HA.out h10).mono ?_
      rintro e w2 ⟨a2, c2, rfl, ho2, hb2⟩
      go_wp2_with fail
      refine bodyPost_ret (v := .tuple #[.slice a2 xs.length c2, .bool true]) (by simp [results, Tryz.results9, go_sem]) rfl ?_
      exact ⟨a2, c2, by rw [HN.out.1, HB.out], by rw [HN.out.1, HN.out.2]; exact ho2.mono hb.size, hb.trans (hb2.mono hb.size)⟩
    · have HB : Hid (agB xs = false) := by simp [Hid, agB, h10]
      have HN := Lib.hid (ag_no HB.out)
      have HA := Lib.hid h
      clear h
      go_enter Tryz.func9, Tryz.ntmps9
      go_wp2_with fail
      refine (asGood_any _ _ _ _ hx hcap).mono ?_
      rintro e w1 ⟨rfl, hb⟩
      rw [HA.out]
      go_wp2_with fail
      refine bodyPost_ret (v := .tuple #[.slice none 0 0, .bool false]) (by simp [results, Tryz.results9, go_sem]) rfl ?_
      exact ⟨none, 0, by rw [HN.out.1, HB.out], by rw [HN.out.1, HN.out.2]; exact OwnV.nil _ _, hb⟩

theorem isBefore_any (x y x' y' : Int) (w : World) :
    Calls Tryz.prog 74 #[.agg #[.int .i64 x, .int .i64 y], .agg #[.int .i64 x', .int .i64 y']] w fun e w' => e = .returned (.bool (decide (y < x'))) ∧ Below w.heap.size w w' := by
  by_cases h : y < x'
  all_goals
    go_enter Tryz.func74, Tryz.ntmps74
    go_wp2
    go_ret
    exact ⟨ret_bool (by simp [h]), (by repeat (first | exact Below.refl _ _ | assumption | refine Below.alloc ?_ (by first | exact Nat.le_refl _ | (simp only [World.size_alloc, World.size_setCell, World.size_drew]; omega) | omega) _ | refine Below.setCell ?_ (by first | exact Nat.le_refl _ | (simp only [World.size_alloc, World.size_setCell, World.size_drew]; omega) | omega) _ | refine Below.drew ?_))⟩

theorem cmpBefore_any (a : Option Addr) (cs : List Int) (n cap : Nat) (x y : Int) (w : World) (hx : Rd w a cs) (hl : cs.length = n * 2) (hn : n ≤ 10) :
    Calls Tryz.prog 73 #[.slice a n cap, .agg #[.int .i64 x, .int .i64 y], .func (.func 74) #[] #[]] w fun e w' => e = .returned (.int .i64 (befTo cs y n)) ∧ Below w.heap.size w w' := by
  have HL := Lib.hid hl
  clear hl
  go_enter Tryz.func73, Tryz.ntmps73
  go_wp2_with fail
  go_loopw [7, 12] (fun s i wr => ∃ k : Nat, k ≤ n ∧ i = .int .i64 k ∧ s = .int .i64 (befTo cs y k) ∧ Below w.heap.size w wr ∧ Box2 wr w.heap.size (.int .i64 x) (.int .i64 y)) (fun _ i _ => n - (intOf i).toNat)
  case atStart => exact ⟨0, Nat.zero_le _, rfl, rfl, (by repeat (first | exact Below.refl _ _ | assumption | refine Below.alloc ?_ (by first | exact Nat.le_refl _ | (simp only [World.size_alloc, World.size_setCell, World.size_drew]; omega) | omega) _ | refine Below.setCell ?_ (by first | exact Nat.le_refl _ | (simp only [World.size_alloc, World.size_setCell, World.size_drew]; omega) | omega) _ | refine Below.drew ?_)), Box2.new w _ _ _⟩
  case round =>
    obtain ⟨k, hk, rfl, rfl, hb, hB⟩ := hrel
    have ⟨zB, cB, dB⟩ := hB
    have hzr := hb.size
    by_cases hlt : k < n
    · obtain ⟨b, off, rfl, hbl, hc1, hc2⟩ := (hx.below hb).pair HL.out hlt
      have hbs := befTo_small cs y (k := k) (by omega)
      have hor := Lib.hid (or_bit (b := befTo cs y k) (k := k) (by omega) (by omega))
      clear hbs
      by_cases hlt2 : y < lft cs k
      · have HS : Hid (befTo cs y (k+1) = befTo cs y k ||| 2 ^ k) := by rw [Hid, befTo, if_pos hlt2]
        have hd : decide (y < lft cs k) = true := by simp [hlt2]
        clear hlt2
        go_wp2_with fail
        refine (isBefore_any _ _ _ _ _).mono ?_
        rw [hd]
        rintro e w2 ⟨rfl, hb2⟩
        have ht2 : Below wr.heap.size wr w2 := Below.trans (by repeat (first | exact Below.refl _ _ | assumption | refine Below.alloc ?_ (by first | exact Nat.le_refl _ | (simp only [World.size_alloc, World.size_setCell, World.size_drew]; omega) | omega) _ | refine Below.setCell ?_ (by first | exact Nat.le_refl _ | (simp only [World.size_alloc, World.size_setCell, World.size_drew]; omega) | omega) _ | refine Below.drew ?_)) (hb2.mono (by first | (simp only [World.size_alloc, World.size_setCell, World.size_drew]; omega) | omega))
        have bw2 := hb.trans (ht2.mono hb.size)
        have B2 := hB.below ht2
        clear hb2 cB dB hc1 hc2
        go_wp2_with fail
        go_roundw
        case rel => exact ⟨k + 1, by omega, by go_num, val_int (by rw [hor.out, HS.out]), bw2, B2⟩
        case measure => simp [intOf]; omega
      · have HS : Hid (befTo cs y (k+1) = befTo cs y k) := by rw [Hid, befTo, if_neg hlt2]
        have hd : decide (y < lft cs k) = false := by simp; omega
        clear hlt2
        go_wp2_with fail
        refine (isBefore_any _ _ _ _ _).mono ?_
        rw [hd]
        rintro e w2 ⟨rfl, hb2⟩
        have ht2 : Below wr.heap.size wr w2 := Below.trans (by repeat (first | exact Below.refl _ _ | assumption | refine Below.alloc ?_ (by first | exact Nat.le_refl _ | (simp only [World.size_alloc, World.size_setCell, World.size_drew]; omega) | omega) _ | refine Below.setCell ?_ (by first | exact Nat.le_refl _ | (simp only [World.size_alloc, World.size_setCell, World.size_drew]; omega) | omega) _ | refine Below.drew ?_)) (hb2.mono (by first | (simp only [World.size_alloc, World.size_setCell, World.size_drew]; omega) | omega))
        have bw2 := hb.trans (ht2.mono hb.size)
        have B2 := hB.below ht2
        clear hb2 cB dB hc1 hc2
        go_wp2_with fail
        go_roundw
        case rel => exact ⟨k + 1, by omega, by go_num, val_int (by rw [HS.out]), bw2, B2⟩
        case measure => simp [intOf]; omega
    · obtain rfl : k = n := by omega
      go_wp2_with fail
      go_ret
      exact ⟨rfl, hb⟩

theorem isWrong_any (x y : Int) (w : World) :
    Calls Tryz.prog 101 #[.agg #[.int .i64 x, .int .i64 y]] w fun e w' => e = .returned (.bool (wrongB x y)) ∧ Below w.heap.size w w' := by
  by_cases h1 : x < -1000
  · have H : Hid (wrongB x y = true) := by simp [Hid, wrongB, h1]
    go_enter Tryz.func101, Tryz.ntmps101
    go_wp2
    go_ret
    exact ⟨ret_bool H.out.symm, (by repeat (first | exact Below.refl _ _ | assumption | refine Below.alloc ?_ (by first | exact Nat.le_refl _ | (simp only [World.size_alloc, World.size_setCell, World.size_drew]; omega) | omega) _ | refine Below.setCell ?_ (by first | exact Nat.le_refl _ | (simp only [World.size_alloc, World.size_setCell, World.size_drew]; omega) | omega) _ | refine Below.drew ?_))⟩
  · by_cases h2 : y < x
    · have H : Hid (wrongB x y = true) := by simp [Hid, wrongB, h2]
      go_enter Tryz.func101, Tryz.ntmps101
      go_wp2
      go_ret
      exact ⟨ret_bool H.out.symm, (by repeat (first | exact Below.refl _ _ | assumption | refine Below.alloc ?_ (by first | exact Nat.le_refl _ | (simp only [World.size_alloc, World.size_setCell, World.size_drew]; omega) | omega) _ | refine Below.setCell ?_ (by first | exact Nat.le_refl _ | (simp only [World.size_alloc, World.size_setCell, World.size_drew]; omega) | omega) _ | refine Below.drew ?_))⟩
    · have H : Hid (wrongB x y = decide (1000 < y)) := by simp [Hid, wrongB, h1, h2]
      go_enter Tryz.func101, Tryz.ntmps101
      go_wp2
      go_ret
      exact ⟨ret_bool (by rw [H.out]), (by repeat (first | exact Below.refl _ _ | assumption | refine Below.alloc ?_ (by first | exact Nat.le_refl _ | (simp only [World.size_alloc, World.size_setCell, World.size_drew]; omega) | omega) _ | refine Below.setCell ?_ (by first | exact Nat.le_refl _ | (simp only [World.size_alloc, World.size_setCell, World.size_drew]; omega) | omega) _ | refine Below.drew ?_))⟩

/-- the first wrong pair, or -1 -/
def idxW (cs : List Int) (n : Nat) : Int := match (List.range n).find? (fun k => wrongB (lft cs k) (rgt cs k)) with | some k => (k : Int) | none => -1
theorem idxW_at {cs : List Int} {n k : Nat} (hk : k < n) (h : wrongB (lft cs k) (rgt cs k) = true) (hb : ∀ j, j < k → wrongB (lft cs j) (rgt cs j) = false) : idxW cs n = (k : Int) := by
  have : (List.range n).find? (fun k => wrongB (lft cs k) (rgt cs k)) = some k := by
    rw [List.find?_range_eq_some]
    exact ⟨h, by simpa using hk, fun j hj => by simp [hb j hj]⟩
  rw [idxW, this]
theorem idxW_none {cs : List Int} {n : Nat} (h : ∀ j, j < n → wrongB (lft cs j) (rgt cs j) = false) : idxW cs n = -1 := by
  have : (List.range n).find? (fun k => wrongB (lft cs k) (rgt cs k)) = none := by
    rw [List.find?_eq_none]
    intro x hx
    simp [h x (by simpa using hx)]
  rw [idxW, this]
theorem indexWrong_any (a : Option Addr) (cs : List Int) (n cap : Nat) (w : World) (hx : Rd w a cs) (hl : cs.length = n * 2) (hn : n ≤ 1048576) :
    Calls Tryz.prog 119 #[.slice a n cap, .func (.func 101) #[] #[]] w fun e w' => e = .returned (.int .i64 (idxW cs n)) ∧ Below w.heap.size w w' := by
  have HL := Lib.hid hl
  clear hl
  go_enter Tryz.func119, Tryz.ntmps119
  go_wp2_with fail
  go_loopw [8] (fun i wr => ∃ k : Nat, k ≤ n ∧ i = .int .i64 k ∧ (∀ j, j < k → wrongB (lft cs j) (rgt cs j) = false) ∧ Below w.heap.size w wr) (fun i _ => n - (intOf i).toNat)
  case atStart => exact ⟨0, Nat.zero_le _, rfl, fun j hj => by omega, Below.refl _ _⟩
  case round =>
    obtain ⟨k, hk, rfl, hall, hb⟩ := hrel
    have HA := Lib.hid hall
    clear hall
    by_cases hlt : k < n
    · obtain ⟨b, off, rfl, hbl, hc1, hc2⟩ := (hx.below hb).pair HL.out hlt
      cases hw : wrongB (lft cs k) (rgt cs k)
      · have HW := Lib.hid hw
        go_wp2_with fail
        refine (isWrong_any _ _ _).mono ?_
        rw [HW.out]
        rintro e w2 ⟨rfl, hb2⟩
        have bw2 := hb.trans (hb2.mono hb.size)
        go_wp2_with fail
        go_roundw
        case rel =>
          refine ⟨k + 1, by omega, by go_num, fun j hj => ?_, bw2⟩
          by_cases e : j = k
          · rw [e]; exact HW.out
          · exact HA.out j (by omega)
        case measure => simp [intOf]; omega
      · have HI := Lib.hid (idxW_at hlt hw HA.out)
        have HW := Lib.hid hw
        go_wp2_with fail
        refine (isWrong_any _ _ _).mono ?_
        rw [HW.out]
        rintro e w2 ⟨rfl, hb2⟩
        have bw2 := hb.trans (hb2.mono hb.size)
        go_wp2_with fail
        go_ret
        exact ⟨ret_int HI.out.symm, bw2⟩
    · obtain rfl : k = n := by omega
      have HI := Lib.hid (idxW_none HA.out)
      go_wp2_with fail
      go_ret
      exact ⟨ret_int HI.out.symm, hb⟩
theorem containsWrong_any (a : Option Addr) (cs : List Int) (n cap : Nat) (w : World) (hx : Rd w a cs) (hl : cs.length = n * 2) (hn : n ≤ 1048576) :
    Calls Tryz.prog 100 #[.slice a n cap, .func (.func 101) #[] #[]] w fun e w' => e = .returned (.bool (decide (0 ≤ idxW cs n))) ∧ Below w.heap.size w w' := by
  go_enter Tryz.func100, Tryz.ntmps100
  go_wp2_with fail
  refine (indexWrong_any _ _ _ _ _ hx hl hn).mono ?_
  rintro e w2 ⟨rfl, hb2⟩
  clear hl
  go_wp2_with fail
  go_ret
  exact ⟨rfl, hb2⟩
theorem good_idx {cs : List Int} {n : Nat} (h : n ≤ 10) : goodV cs n = !decide (0 ≤ idxW cs n) := by
  cases hg : goodV cs n
  · have h1 : ∃ k, k < n ∧ wrongB (lft cs k) (rgt cs k) = true := by
      apply Classical.byContradiction
      intro hne
      have : goodV cs n = true := goodV_iff.2 ⟨h, fun k hk => by
        cases hw : wrongB (lft cs k) (rgt cs k)
        · rfl
        · exact absurd ⟨k, hk, hw⟩ hne⟩
      rw [hg] at this; cases this
    unfold idxW
    cases hf : (List.range n).find? (fun k => wrongB (lft cs k) (rgt cs k)) with
    | none =>
      obtain ⟨k, hk, hw⟩ := h1
      rw [List.find?_eq_none] at hf
      exact absurd hw (hf k (by simpa using hk))
    | some k => simp
  · rw [idxW_none (goodV_iff.1 hg).2]; rfl

theorem iAreIntervals_any (a : Option Addr) (cs : List Int) (n cap : Nat) (w : World) (hx : Rd w a cs) (hl : cs.length = n * 2) (hn : n ≤ 1048576) :
    Calls Tryz.prog 72 #[.slice a n cap] w fun e w' => e = .returned (.bool (goodV cs n)) ∧ Below w.heap.size w w' := by
  by_cases h : n ≤ 10
  · have H := Lib.hid (good_idx (cs := cs) h)
    have HL := Lib.hid hl
    clear hl
    go_enter Tryz.func72, Tryz.ntmps72
    go_wp2_with fail
    refine (containsWrong_any _ _ _ _ _ hx HL.out hn).mono ?_
    rintro e w2 ⟨rfl, hb2⟩
    go_wp2_with fail
    go_ret
    exact ⟨ret_bool (by rw [H.out]), hb2⟩
  · have H := Lib.hid (goodV_big (cs := cs) (n := n) (by omega))
    clear hl
    go_enter Tryz.func72, Tryz.ntmps72
    go_wp2_with fail
    go_ret
    exact ⟨ret_bool H.out.symm, Below.refl _ _⟩

theorem iOrderOfIv_any (a : Option Addr) (cs : List Int) (n cap : Nat) (w : World) (hx : Rd w a cs) (hl : cs.length = n * 2) (hn : n ≤ 1048576) :
    Calls Tryz.prog 38 #[.slice a n cap] w (GotO w (ooN cs n) (ooL cs n) (goodV cs n)) := by
  obtain ⟨i0, hi, hz0, hz1, hz2⟩ := info_parts infoInt
  have HL := Lib.hid hl
  clear hl
  have hx1 := hx.alloc (.cells #[.int .i64 0, .slice none 0 0] 31)
  cases hg : goodV cs n
  · have H1 : Hid (ooN cs n = 0) := by simp [Hid, ooN, hg]
    have H2 : Hid (ooL cs n = []) := by simp [Hid, ooL, hg]
    have HG := Lib.hid hg
    clear hg
    go_enter Tryz.func38, Tryz.ntmps38
    go_wp2_with fail
    refine (iAreIntervals_any _ _ _ _ _ hx1 HL.out hn).mono ?_
    rw [HG.out]
    rintro e w1 ⟨rfl, hb1⟩
    have R1 : Var2 w1 w.heap.size (.int .i64 0) (.slice none 0 0) := (Var2.new w _ _ _).below hb1
    have ⟨⟨zR, cR, dR⟩, fR, gR⟩ := R1
    have bw1 : Below w.heap.size w w1 := Below.trans (by repeat (first | exact Below.refl _ _ | assumption | refine Below.alloc ?_ (by first | exact Nat.le_refl _ | (simp only [World.size_alloc, World.size_setCell, World.size_drew]; omega) | omega) _ | refine Below.setCell ?_ (by first | exact Nat.le_refl _ | (simp only [World.size_alloc, World.size_setCell, World.size_drew]; omega) | omega) _ | refine Below.drew ?_)) (hb1.mono (by first | (simp only [World.size_alloc, World.size_setCell, World.size_drew]; omega) | omega))
    clear hb1
    go_wp2_with fail
    have R3 := R1.set (.int .i64 0) (.slice none 0 0)
    refine bodyPost_ret (v := .tuple #[.agg #[.int .i64 0, .slice none 0 0], .bool false]) (by have ⟨⟨_, q1, q2⟩, _, _⟩ := R3; simp [results, Tryz.results38, go_sem, q1, q2]) rfl ?_
    refine ⟨none, 0, ?_, ?_, ?_⟩
    · rw [H1.out, H2.out]; rfl
    · rw [H2.out]; exact OwnI.nil _ _
    · exact (bw1.setCell (by simp) _).setCell (by simp) _
  · have ⟨hn10, hbd⟩ := goodV_iff.1 hg
    have H1 : Hid (ooN cs n = (n : Int)) := by simp [Hid, ooN, hg]
    have H2 : Hid (ooL cs n = ivo cs n n) := by simp [Hid, ooL, hg]
    have HG := Lib.hid hg
    clear hg hbd
    go_enter Tryz.func38, Tryz.ntmps38
    go_wp2_with fail
    refine (iAreIntervals_any _ _ _ _ _ hx1 HL.out hn).mono ?_
    rw [HG.out]
    rintro e w1 ⟨rfl, hb1⟩
    have R1 : Var2 w1 w.heap.size (.int .i64 0) (.slice none 0 0) := (Var2.new w _ _ _).below hb1
    have bw1 : Below w.heap.size w w1 := Below.trans (by repeat (first | exact Below.refl _ _ | assumption | refine Below.alloc ?_ (by first | exact Nat.le_refl _ | (simp only [World.size_alloc, World.size_setCell, World.size_drew]; omega) | omega) _ | refine Below.setCell ?_ (by first | exact Nat.le_refl _ | (simp only [World.size_alloc, World.size_setCell, World.size_drew]; omega) | omega) _ | refine Below.drew ?_)) (hb1.mono (by first | (simp only [World.size_alloc, World.size_setCell, World.size_drew]; omega) | omega))
    have hz1' : w.heap.size + 1 ≤ w1.heap.size := by have := R1.1.1; omega
    clear hb1
    go_wp2_with (at_make; refine wpList_make_full _ rfl (.tmp 12) (.tmp 12) 24 rfl (w.heap.size + 1) 3 i0 (.int .i64 0) 1 Tryz.underlying24 hi hz0 hz1 .i64 .i64 _ _ n rfl rfl rfl rfl (by rw [hz2]; omega) (by unfold maxLen; omega) hz1' ?_; intro w2 hown hgrow)
    have R2 := R1.kept hgrow (by simp)
    have hb2 : Below w.heap.size w w2 := bw1.grown hgrow bw1.size (fun k h => by cases h)
    have hown0 := made_row (ivE cs n) hown
    obtain ⟨g, hg⟩ : ∃ g, g = w1.heap.size := ⟨_, rfl⟩
    rw [← hg] at hown0 ⊢
    have hgz : w.heap.size + 1 ≤ g := by omega
    clear hown hgrow R1 hg
    go_wp2_with fail
    go_loopw [16] (fun i wr => ∃ k : Nat, k ≤ n ∧ i = .int .i64 k ∧ OwnI wr (w.heap.size + 1) (.slice (some ⟨g, 0, none⟩) n n) (rowF (ivE cs n) n k) ∧ Below w.heap.size w wr ∧ Var2 wr w.heap.size (.int .i64 0) (.slice none 0 0)) (fun i _ => n - (intOf i).toNat)
    case atStart => exact ⟨0, Nat.zero_le _, rfl, hown0, hb2, R2⟩
    case round =>
      obtain ⟨k, hk, rfl, hown, hb, hR⟩ := hrel
      have hzr := hb.size
      by_cases hlt : k < n
      · obtain ⟨b, off, rfl, hbl, hc1, hc2⟩ := (hx.below hb).pair HL.out hlt
        have k0 : (0 : Int) ≤ (k : Int) := by omega
        have k1 : (k : Int) < (n : Int) := by omega
        go_wp2_with fail
        refine (cmpBefore_any _ _ _ _ _ _ _ ((hx.below hb).alloc _) HL.out hn10).mono ?_
        rintro e w3 ⟨rfl, hb3⟩
        have ht3 : Below wr.heap.size wr w3 := Below.trans (by repeat (first | exact Below.refl _ _ | assumption | refine Below.alloc ?_ (by first | exact Nat.le_refl _ | (simp only [World.size_alloc, World.size_setCell, World.size_drew]; omega) | omega) _ | refine Below.setCell ?_ (by first | exact Nat.le_refl _ | (simp only [World.size_alloc, World.size_setCell, World.size_drew]; omega) | omega) _ | refine Below.drew ?_)) (hb3.mono (by first | (simp only [World.size_alloc, World.size_setCell, World.size_drew]; omega) | omega))
        have o3 := hown.below ht3 (Nat.le_refl _)
        have bw3 := hb.trans (ht3.mono hb.size)
        have R3 := hR.below ht3
        have hrl := rowF_len (ivE cs n) hk
        have ⟨ci, fi⟩ := o3.at' hrl.symm (i := k) (by omega)
        have hput := o3.put hrl.symm k (ivE cs n k)
        rw [rowF_set _ hlt] at hput
        have HP := Lib.hid hput.1
        have R4 := R3.kept hput.2 (by simp; omega)
        have bw4 := bw3.setCell (p := ⟨g, k, none⟩) (show w.heap.size ≤ g by omega) (.int .i64 (ivE cs n k))
        have HE : Hid (((befTo cs (rgt cs k) n : Nat) : Int) = ivE cs n k) := rfl
        rw [HE.out]
        clear hput hrl hown o3 hb3 hc1 hc2 R3
        go_wp2_with fail
        go_roundw
        case rel => exact ⟨k + 1, by omega, by go_num, HP.out, bw4, R4⟩
        case measure => simp [intOf]; omega
      · obtain rfl : k = n := by omega
        rw [rowF_end] at hown
        have ho : OwnI wr (w.heap.size + 1) (.slice (some ⟨g, 0, none⟩) k k) (ivo cs k k) := hown
        have ⟨⟨zR, cR, dR⟩, fR, gR⟩ := hR
        clear hown
        go_wp2_with fail
        have R3 := hR.set (.int .i64 (k : Int)) (.slice (some ⟨g, 0, none⟩) k k)
        refine bodyPost_ret (v := .tuple #[.agg #[.int .i64 (k : Int), .slice (some ⟨g, 0, none⟩) k k], .bool true]) (by have ⟨⟨_, q1, q2⟩, _, _⟩ := R3; simp [results, Tryz.results38, go_sem, q1, q2]) rfl ?_
        refine ⟨some ⟨g, 0, none⟩, k, ?_, ?_, ?_⟩
        · rw [H1.out, H2.out, ivo_len]
        · rw [H2.out, ivo_len]
          exact ((ho.setBelow (p := ⟨w.heap.size, 0, none⟩) (show w.heap.size < w.heap.size + 1 by omega) _).setBelow (p := ⟨w.heap.size, 1, none⟩) (show w.heap.size < w.heap.size + 1 by omega) _).mono (by omega)
        · exact (hb.setCell (p := ⟨w.heap.size, 0, none⟩) (Nat.le_refl _) _).setCell (p := ⟨w.heap.size, 1, none⟩) (Nat.le_refl _) _

theorem got_no {w w' : World} {n : Int} {ys : List Int} {ok : Bool} (h1 : n = 0) (h2 : ys = []) (h3 : ok = false) (hb : Below w.heap.size w w') : GotO w n ys ok (.returned (.tuple #[.agg #[.int .i64 0, .slice none 0 0], .bool false])) w' := by
  subst h1 h2 h3
  exact ⟨none, 0, rfl, OwnI.nil _ _, hb⟩

theorem iOrderAsc_any (a : Option Addr) (xs : List Int) (cap : Nat) (w : World) (hx : Rd w a xs) (hcap : xs.length ≤ cap) :
    Calls Tryz.prog 11 #[.slice a xs.length cap] w (GotO w (aoO xs) (aoL xs) (agB xs)) := by
  have hlen := hx.len
  have hx1 := hx.alloc (.cells #[.int .i64 0, .slice none 0 0] 31)
  have R1 : Var2 (w.alloc (.cells #[.int .i64 0, .slice none 0 0] 31)) w.heap.size (.int .i64 0) (.slice none 0 0) := Var2.new w _ _ _
  have bw1 : Below w.heap.size w (w.alloc (.cells #[.int .i64 0, .slice none 0 0] 31)) := (Below.refl _ _).alloc (Nat.le_refl _) _
  cases hB : agB xs
  · have H1 : Hid (aoO xs = 0) := by simp [Hid, aoO, hB]
    have H2 : Hid (aoL xs = []) := by simp [Hid, aoL, hB]
    have HB := Lib.hid hB
    clear hB
    go_enter Tryz.func11, Tryz.ntmps11
    go_wp2_with fail
    refine (iIntervals_any _ _ _ _ hx1 hcap).mono ?_
    rintro e w1 ⟨a1, c1, rfl, ho1, hb⟩
    rw [HB.out]
    have R2 := R1.below hb
    have bw2 := bw1.trans (hb.mono bw1.size)
    have ⟨⟨zR, cR, dR⟩, fR, gR⟩ := R2
    go_wp2_with fail
    have R3 := R2.set (.int .i64 0) (.slice none 0 0)
    refine bodyPost_ret (v := .tuple #[.agg #[.int .i64 0, .slice none 0 0], .bool false]) (by have ⟨⟨_, q1, q2⟩, _, _⟩ := R3; simp [results, Tryz.results11, go_sem, q1, q2]) rfl ?_
    exact got_no H1.out H2.out rfl ((bw2.setCell (p := ⟨w.heap.size, 0, none⟩) (Nat.le_refl _) _).setCell (p := ⟨w.heap.size, 1, none⟩) (Nat.le_refl _) _)
  · have ⟨hA, h10⟩ := agB_iff.1 hB
    have H1 : Hid (aoO xs = (xs.length : Int)) := by simp [Hid, aoO, hB]
    have H2 : Hid (aoL xs = ivo (agC xs xs.length).1 xs.length xs.length) := by simp [Hid, aoL, hB]
    have H3 : Hid (agN xs = xs.length) := by simp [Hid, agN, hB]
    have H4 : Hid (agV xs = (agC xs xs.length).1) := by simp [Hid, agV, hB]
    have HCL := Lib.hid (agC_len xs xs.length)
    have hg := ag_good hA h10
    have H5 : Hid (ooN (agC xs xs.length).1 xs.length = (xs.length : Int)) := by simp [Hid, ooN, hg]
    have H6 : Hid (ooL (agC xs xs.length).1 xs.length = ivo (agC xs xs.length).1 xs.length xs.length) := by simp [Hid, ooL, hg]
    have HG := Lib.hid hg
    have HB := Lib.hid hB
    clear hB hA hg
    go_enter Tryz.func11, Tryz.ntmps11
    go_wp2_with fail
    refine (iIntervals_any _ _ _ _ hx1 hcap).mono ?_
    rintro e w1 ⟨a1, c1, rfl, ho1, hb⟩
    rw [HB.out, H3.out]
    rw [H3.out, H4.out] at ho1
    have R2 := R1.below hb
    have bw2 := bw1.trans (hb.mono bw1.size)
    have hr1 := ho1.rd (by omega)
    clear hb ho1
    go_wp2_with fail
    refine (iOrderOfIv_any _ _ _ _ _ hr1 HCL.out (by omega)).mono ?_
    rintro e w3 ⟨a3, c3, rfl, ho3, hb3⟩
    rw [H5.out, H6.out, HG.out, ivo_len]
    rw [H6.out, ivo_len] at ho3
    have R4 := R2.below hb3
    have bw4 := bw2.trans (hb3.mono bw2.size)
    have ⟨⟨zR, cR, dR⟩, fR, gR⟩ := R4
    have hz2 : w.heap.size < w1.heap.size := R2.1.1
    clear hb3
    go_wp2_with fail
    have R5 := R4.set (.int .i64 (xs.length : Int)) (.slice a3 xs.length c3)
    refine bodyPost_ret (v := .tuple #[.agg #[.int .i64 (xs.length : Int), .slice a3 xs.length c3], .bool true]) (by have ⟨⟨_, q1, q2⟩, _, _⟩ := R5; simp [results, Tryz.results11, go_sem, q1, q2]) rfl ?_
    refine ⟨a3, c3, by rw [H1.out, H2.out, ivo_len], ?_, ?_⟩
    · rw [H2.out, ivo_len]
      exact ((ho3.setBelow (p := ⟨w.heap.size, 0, none⟩) hz2 _).setBelow (p := ⟨w.heap.size, 1, none⟩) hz2 _).mono (by omega)
    · exact (bw4.setCell (p := ⟨w.heap.size, 0, none⟩) (Nat.le_refl _) _).setCell (p := ⟨w.heap.size, 1, none⟩) (Nat.le_refl _) _

theorem ivOrder_any (a : Option Addr) (cs : List Int) (n cap : Nat) (w : World) (hx : Rd w a cs) (hl : cs.length = n * 2) (hn : n ≤ 10) :
    Calls Tryz.prog 39 #[.slice a n cap] w fun e w' => ∃ a' cap', e = .returned (.agg #[.int .i64 n, .slice a' n cap']) ∧ OwnI w' w.heap.size (.slice a' n cap') (ivo cs n n) ∧ Below w.heap.size w w' := by
  obtain ⟨i0, hi, hz0, hz1, hz2⟩ := info_parts infoInt
  have HL := Lib.hid hl
  clear hl
  go_enter Tryz.func39, Tryz.ntmps39
  go_wp2_with fail
  go_loopw [14] (fun i wr => ∃ (k : Nat) (v : Value), k ≤ n ∧ i = .int .i64 k ∧ OwnI wr (w.heap.size + 2) v (ivo cs n k) ∧ Below w.heap.size w wr ∧ Var2 wr w.heap.size (.int .i64 0) (.slice none 0 0) ∧ Var2 wr (w.heap.size + 1) (.int .i64 n) v) (fun i _ => n - (intOf i).toNat)
  case atStart => exact ⟨0, .slice none 0 0, Nat.zero_le _, rfl, OwnI.nil _ _, (by repeat (first | exact Below.refl _ _ | assumption | refine Below.alloc ?_ (by first | exact Nat.le_refl _ | (simp only [World.size_alloc, World.size_setCell, World.size_drew]; omega) | omega) _ | refine Below.setCell ?_ (by first | exact Nat.le_refl _ | (simp only [World.size_alloc, World.size_setCell, World.size_drew]; omega) | omega) _ | refine Below.drew ?_)), (Var2.new w _ _ _).alloc _, by simpa using Var2.new (w.alloc (.cells #[.int .i64 0, .slice none 0 0] 31)) (.int .i64 n) (.slice none 0 0) 31⟩
  case round =>
    obtain ⟨k, v, hk, rfl, hown, hb, hR, hV⟩ := hrel
    obtain ⟨av, cv, rfl⟩ := hown.form
    rw [ivo_len] at hown hV
    obtain ⟨wo, rfl⟩ : ∃ wo : World, wo = wr := ⟨_, rfl⟩
    have hzr := hb.size
    by_cases hlt : k < n
    · obtain ⟨b, off, rfl, hbl, hc1, hc2⟩ := (hx.below hb).pair HL.out hlt
      go_wp2_with fail
      go_loopw [6, 20] (fun s i wr => ∃ j : Nat, j ≤ n ∧ i = .int .i64 j ∧ s = .int .i64 (befTo cs (rgt cs k) j) ∧ Below wo.heap.size wo wr ∧ Box2 wr wo.heap.size (.int .i64 (lft cs k)) (.int .i64 (rgt cs k))) (fun _ i _ => n - (intOf i).toNat)
      case atStart => exact ⟨0, Nat.zero_le _, rfl, rfl, (by repeat (first | exact Below.refl _ _ | assumption | refine Below.alloc ?_ (by first | exact Nat.le_refl _ | (simp only [World.size_alloc, World.size_setCell, World.size_drew]; omega) | omega) _ | refine Below.setCell ?_ (by first | exact Nat.le_refl _ | (simp only [World.size_alloc, World.size_setCell, World.size_drew]; omega) | omega) _ | refine Below.drew ?_)), Box2.new wo _ _ _⟩
      case round =>
        obtain ⟨j, hj, rfl, rfl, hbj, hBj⟩ := hrel
        have ⟨zB, cB, dB⟩ := hBj
        have hzj := hbj.size
        by_cases hjl : j < n
        · obtain ⟨b2, off2, e2, hbl2, hd1, hd2⟩ := (hx.below (hb.trans (hbj.mono hb.size))).pair HL.out hjl
          simp only [Option.some.injEq, Addr.mk.injEq, and_true] at e2
          obtain ⟨rfl, rfl⟩ := e2
          have hbs := befTo_small cs (rgt cs k) (k := j) (by omega)
          have hor := Lib.hid (or_bit (b := befTo cs (rgt cs k) j) (k := j) (by omega) (by omega))
          clear hbs
          by_cases hlt2 : rgt cs k < lft cs j
          · have HS : Hid (befTo cs (rgt cs k) (j+1) = befTo cs (rgt cs k) j ||| 2 ^ j) := by rw [Hid, befTo, if_pos hlt2]
            go_wp2_with fail
            go_roundw
            case rel => exact ⟨j + 1, by omega, by go_num, val_int (by rw [hor.out, HS.out]), (by repeat (first | exact Below.refl _ _ | assumption | refine Below.alloc ?_ (by first | exact Nat.le_refl _ | (simp only [World.size_alloc, World.size_setCell, World.size_drew]; omega) | omega) _ | refine Below.setCell ?_ (by first | exact Nat.le_refl _ | (simp only [World.size_alloc, World.size_setCell, World.size_drew]; omega) | omega) _ | refine Below.drew ?_)), hBj.below (by repeat (first | exact Below.refl _ _ | assumption | refine Below.alloc ?_ (by first | exact Nat.le_refl _ | (simp only [World.size_alloc, World.size_setCell, World.size_drew]; omega) | omega) _ | refine Below.setCell ?_ (by first | exact Nat.le_refl _ | (simp only [World.size_alloc, World.size_setCell, World.size_drew]; omega) | omega) _ | refine Below.drew ?_))⟩
            case measure => simp [intOf]; omega
          · have HS : Hid (befTo cs (rgt cs k) (j+1) = befTo cs (rgt cs k) j) := by rw [Hid, befTo, if_neg hlt2]
            go_wp2_with fail
            go_roundw
            case rel => exact ⟨j + 1, by omega, by go_num, val_int (by rw [HS.out]), (by repeat (first | exact Below.refl _ _ | assumption | refine Below.alloc ?_ (by first | exact Nat.le_refl _ | (simp only [World.size_alloc, World.size_setCell, World.size_drew]; omega) | omega) _ | refine Below.setCell ?_ (by first | exact Nat.le_refl _ | (simp only [World.size_alloc, World.size_setCell, World.size_drew]; omega) | omega) _ | refine Below.drew ?_)), hBj.below (by repeat (first | exact Below.refl _ _ | assumption | refine Below.alloc ?_ (by first | exact Nat.le_refl _ | (simp only [World.size_alloc, World.size_setCell, World.size_drew]; omega) | omega) _ | refine Below.setCell ?_ (by first | exact Nat.le_refl _ | (simp only [World.size_alloc, World.size_setCell, World.size_drew]; omega) | omega) _ | refine Below.drew ?_))⟩
            case measure => simp [intOf]; omega
        · obtain rfl : j = n := by omega
          have o2 := hown.below hbj (Nat.le_refl _)
          have R2 := hR.below hbj
          have V2 := hV.below hbj
          have ⟨⟨zV, cV, dV⟩, fV, gV⟩ := V2
          have bwj := hb.trans (hbj.mono hb.size)
          have HE : Hid (((befTo cs (rgt cs k) j : Nat) : Int) = ivE cs j k) := rfl
          rw [HE.out]
          clear hc1 hc2
          go_wp2_with (at_builtin; refine wpList_append_own _ rfl _ _ 24 rfl (w.heap.size + 2) 3 i0 (.int .i64 0) 1 8 Tryz.underlying24 hi hz0 hz1 hz2 rfl (by decide) (.slice av k cv) k ((ivo cs j k).map (Value.int .i64)) rfl (by have h := o2.alloc (.cells #[.int .i64 (ivE cs j k)] 3); unfold OwnI at h; rw [ivo_len] at h; exact h) ⟨wr.heap.size, 0, none⟩ 1 1 [.int .i64 (ivE cs j k)] rfl rfl (cell_one_new _ _ _) (by intro u hu; simp at hu; subst hu; rfl) (by unfold maxLen; omega) (by omega) (by simp; omega) ?_)
          intro v' w6 hown6 hgrow _
          have hg2 := grown_alloc_set hgrow
          have o6 : OwnI w6 (w.heap.size + 2) v' (ivo cs j (k + 1)) := by
            unfold OwnI
            rw [ivo_len, ivo, fmap_succ, List.map_append]
            exact hown6
          obtain ⟨a6, c6, rfl⟩ := o6.form
          rw [ivo_len] at o6 ⊢
          have hU := o2.lt
          have R6 := R2.kept hg2 (ne_own (fun c e => by have := hU c e; omega))
          have V6 := V2.kept hg2 (ne_own (fun c e => by have := hU c e; omega))
          have bw6 := bwj.trans (below_of_grown hg2 (fun c e => by have := hU c e; omega) bwj.size)
          have ⟨⟨zV6, cV6, dV6⟩, fV6, gV6⟩ := V6
          clear hown6 hgrow hU cV dV fV gV
          go_wp2_with fail
          go_roundw
          case rel => exact ⟨k + 1, _, by omega, by go_num, o6.setBelow (p := ⟨w.heap.size + 1, 1, none⟩) (show w.heap.size + 1 < w.heap.size + 2 by omega) _, bw6.setCell (p := ⟨w.heap.size + 1, 1, none⟩) (show w.heap.size ≤ w.heap.size + 1 by omega) _, R6.other (p := ⟨w.heap.size + 1, 1, none⟩) _ (show w.heap.size ≠ w.heap.size + 1 by omega), V6.set1 _⟩
          case measure => simp [intOf]; omega
    · obtain rfl : k = n := by omega
      have ⟨⟨zR, cR, dR⟩, fR, gR⟩ := hR
      have ⟨⟨zV, cV, dV⟩, fV, gV⟩ := hV
      go_wp2_with fail
      have R3 := hR.set (.int .i64 (k : Int)) (.slice av k cv)
      refine bodyPost_ret (v := .agg #[.int .i64 (k : Int), .slice av k cv]) (by have ⟨⟨_, q1, q2⟩, _, _⟩ := R3; simp [results, Tryz.results39, go_sem, q1, q2]) rfl ?_
      refine ⟨av, cv, rfl, ?_, ?_⟩
      · exact ((hown.setBelow (by simp) _).setBelow (by simp) _).mono (by omega)
      · exact (hb.setCell (by simp) _).setCell (by simp) _

theorem sOrderAsc_any (a : Option Addr) (xs : List Int) (cap : Nat) (w : World) (hx : Rd w a xs) (hcap : xs.length ≤ cap) :
    Calls Tryz.prog 12 #[.slice a xs.length cap] w (GotO w (aoO xs) (aoL xs) (agB xs)) := by
  have hlen := hx.len
  have hx1 := hx.alloc (.cells #[.int .i64 0, .slice none 0 0] 31)
  have R1 : Var2 (w.alloc (.cells #[.int .i64 0, .slice none 0 0] 31)) w.heap.size (.int .i64 0) (.slice none 0 0) := Var2.new w _ _ _
  have bw1 : Below w.heap.size w (w.alloc (.cells #[.int .i64 0, .slice none 0 0] 31)) := (Below.refl _ _).alloc (Nat.le_refl _) _
  cases hB : agB xs
  · have H1 : Hid (aoO xs = 0) := by simp [Hid, aoO, hB]
    have H2 : Hid (aoL xs = []) := by simp [Hid, aoL, hB]
    have hor : ascB xs = false ∨ (ascB xs = true ∧ ¬ xs.length ≤ 10) := by
      cases h : ascB xs
      · exact .inl rfl
      · exact .inr ⟨rfl, fun h2 => by rw [agB_iff.2 ⟨h, h2⟩] at hB; cases hB⟩
    have HB := Lib.hid hB
    clear hB
    rcases hor with hA | ⟨hA, h10⟩
    all_goals
      have HA := Lib.hid hA
      clear hA
      go_enter Tryz.func12, Tryz.ntmps12
      go_wp2_with fail
      refine (asGood_any _ _ _ _ hx1 hcap).mono ?_
      rintro e w1 ⟨rfl, hb⟩
      rw [HA.out]
      have R2 := R1.below hb
      have bw2 := bw1.trans (hb.mono bw1.size)
      have ⟨⟨zR, cR, dR⟩, fR, gR⟩ := R2
      go_wp2_with fail
      have R3 := R2.set (.int .i64 0) (.slice none 0 0)
      refine bodyPost_ret (v := .tuple #[.agg #[.int .i64 0, .slice none 0 0], .bool false]) (by have ⟨⟨_, q1, q2⟩, _, _⟩ := R3; simp [results, Tryz.results12, go_sem, q1, q2]) rfl ?_
      exact got_no H1.out H2.out rfl ((bw2.setCell (p := ⟨w.heap.size, 0, none⟩) (Nat.le_refl _) _).setCell (p := ⟨w.heap.size, 1, none⟩) (Nat.le_refl _) _)
  · have ⟨hA, h10⟩ := agB_iff.1 hB
    have H1 : Hid (aoO xs = (xs.length : Int)) := by simp [Hid, aoO, hB]
    have H2 : Hid (aoL xs = ivo (agC xs xs.length).1 xs.length xs.length) := by simp [Hid, aoL, hB]
    have HCL := Lib.hid (agC_len xs xs.length)
    have HB := Lib.hid hB
    have HA := Lib.hid hA
    clear hB hA
    go_enter Tryz.func12, Tryz.ntmps12
    go_wp2_with fail
    refine (asGood_any _ _ _ _ hx1 hcap).mono ?_
    rintro e w1 ⟨rfl, hb⟩
    rw [HA.out]
    have R2 := R1.below hb
    have bw2 := bw1.trans (hb.mono bw1.size)
    clear hb
    go_wp2_with fail
    refine (asIntervals_any _ _ _ _ (hx.below bw2) HA.out h10).mono ?_
    rintro e w2 ⟨a2, c2, rfl, ho2, hb2⟩
    have R3 := R2.below hb2
    have bw3 := bw2.trans (hb2.mono bw2.size)
    have hr2 := ho2.rd (by omega)
    clear hb2 ho2
    go_wp2_with fail
    refine (ivOrder_any _ _ _ _ _ hr2 HCL.out h10).mono ?_
    rintro e w3 ⟨a3, c3, rfl, ho3, hb3⟩
    have R4 := R3.below hb3
    have bw4 := bw3.trans (hb3.mono bw3.size)
    have ⟨⟨zR, cR, dR⟩, fR, gR⟩ := R4
    have hz2 : w.heap.size < w2.heap.size := R3.1.1
    clear hb3
    go_wp2_with fail
    have R5 := R4.set (.int .i64 (xs.length : Int)) (.slice a3 xs.length c3)
    refine bodyPost_ret (v := .tuple #[.agg #[.int .i64 (xs.length : Int), .slice a3 xs.length c3], .bool true]) (by have ⟨⟨_, q1, q2⟩, _, _⟩ := R5; simp [results, Tryz.results12, go_sem, q1, q2]) rfl ?_
    refine ⟨a3, c3, by rw [H1.out, H2.out, ivo_len], ?_, ?_⟩
    · rw [H2.out, ivo_len]
      exact ((ho3.setBelow (p := ⟨w.heap.size, 0, none⟩) hz2 _).setBelow (p := ⟨w.heap.size, 1, none⟩) hz2 _).mono (by omega)
    · exact (bw4.setCell (p := ⟨w.heap.size, 0, none⟩) (Nat.le_refl _) _).setCell (p := ⟨w.heap.size, 1, none⟩) (Nat.le_refl _) _

def Sh_lays189_ren : Go.Shelf.Ren := ⟨fun | 189 => 76 | 125 => 104 | 257 => 103 | 128 => 129 | 129 => 130 | 294 => 120 | 295 => 121 | 296 => 122 | 297 => 123 | 298 => 124 | 299 => 125 | 216 => 126 | 300 => 127 | 301 => 128 | 328 => 141 | 329 => 142 | 330 => 143 | 331 => 144 | 332 => 145 | 215 => 146 | 343 => 150 | n => n, fun | 28 => 24 | 3 => 3 | 46 => 118 | 0 => 0 | 51 => 135 | 53 => 57 | 4 => 4 | 183 => 140 | 182 => 139 | 131 => 36 | 5 => 5 | 9 => 9 | 218 => 149 | 222 => 153 | 228 => 157 | 229 => 158 | n => n, fun | n => n⟩
theorem Sh_lays189 : Go.Proofs.Lays.n189 Tryz.prog Sh_lays189_ren := {
  mixed := by kernel_rfl
  f125 := Tryz.func104.trans (congrArg some (by kernel_rfl))
  f128 := Tryz.func129.trans (congrArg some (by kernel_rfl))
  f129 := Tryz.func130.trans (congrArg some (by kernel_rfl))
  f189 := Tryz.func76.trans (congrArg some (by kernel_rfl))
  f215 := Tryz.func146.trans (congrArg some (by kernel_rfl))
  f216 := Tryz.func126.trans (congrArg some (by kernel_rfl))
  f257 := Tryz.func103.trans (congrArg some (by kernel_rfl))
  f294 := Tryz.func120.trans (congrArg some (by kernel_rfl))
  f295 := Tryz.func121.trans (congrArg some (by kernel_rfl))
  f296 := Tryz.func122.trans (congrArg some (by kernel_rfl))
  f297 := Tryz.func123.trans (congrArg some (by kernel_rfl))
  f298 := Tryz.func124.trans (congrArg some (by kernel_rfl))
  f299 := Tryz.func125.trans (congrArg some (by kernel_rfl))
  f300 := Tryz.func127.trans (congrArg some (by kernel_rfl))
  f301 := Tryz.func128.trans (congrArg some (by kernel_rfl))
  f328 := Tryz.func141.trans (congrArg some (by kernel_rfl))
  f329 := Tryz.func142.trans (congrArg some (by kernel_rfl))
  f330 := Tryz.func143.trans (congrArg some (by kernel_rfl))
  f331 := Tryz.func144.trans (congrArg some (by kernel_rfl))
  f332 := Tryz.func145.trans (congrArg some (by kernel_rfl))
  f343 := Tryz.func150.trans (congrArg some (by kernel_rfl))
  t0 := Tryz.underlying0
  a0 := Tryz.isAgg0
  z0 := Tryz.sizeOf0
  v0 := Tryz.zeroValue0
  t3 := Tryz.underlying3
  a3 := Tryz.isAgg3
  z3 := Tryz.sizeOf3
  v3 := Tryz.zeroValue3
  t4 := Tryz.underlying4
  a4 := Tryz.isAgg4
  z4 := Tryz.sizeOf4
  v4 := Tryz.zeroValue4
  t5 := Tryz.underlying5
  a5 := Tryz.isAgg5
  z5 := Tryz.sizeOf5
  v5 := Tryz.zeroValue5
  t9 := Tryz.underlying9
  a9 := Tryz.isAgg9
  z9 := Tryz.sizeOf9
  v9 := Tryz.zeroValue9
  t28 := Tryz.underlying24
  a28 := Tryz.isAgg24
  z28 := Tryz.sizeOf24
  v28 := Tryz.zeroValue24
  t46 := Tryz.underlying118
  a46 := Tryz.isAgg118
  z46 := Tryz.sizeOf118
  v46 := Tryz.zeroValue118
  t51 := Tryz.underlying135
  a51 := Tryz.isAgg135
  z51 := Tryz.sizeOf135
  v51 := Tryz.zeroValue135
  t53 := Tryz.underlying57
  a53 := Tryz.isAgg57
  z53 := Tryz.sizeOf57
  v53 := Tryz.zeroValue57
  t131 := Tryz.underlying36
  a131 := Tryz.isAgg36
  z131 := Tryz.sizeOf36
  v131 := Tryz.zeroValue36
  t182 := Tryz.underlying139
  a182 := Tryz.isAgg139
  z182 := Tryz.sizeOf139
  v182 := Tryz.zeroValue139
  t183 := Tryz.underlying140
  a183 := Tryz.isAgg140
  z183 := Tryz.sizeOf140
  v183 := Tryz.zeroValue140
  t218 := Tryz.underlying149
  a218 := Tryz.isAgg149
  z218 := Tryz.sizeOf149
  v218 := Tryz.zeroValue149
  t222 := Tryz.underlying153
  a222 := Tryz.isAgg153
  z222 := Tryz.sizeOf153
  v222 := Tryz.zeroValue153
  t228 := Tryz.underlying157
  a228 := Tryz.isAgg157
  z228 := Tryz.sizeOf157
  v228 := Tryz.zeroValue157
  t229 := Tryz.underlying158
  a229 := Tryz.isAgg158
  z229 := Tryz.sizeOf158
  v229 := Tryz.zeroValue158 }

open Go.Sort Go.RowKit in
theorem Sh_slices_Sort_int (blk off cap : Nat) (zs : List Int) (w : World) (hH : Holds (Value.int .i64) w blk off zs.toArray) (hblk : blk < w.heap.size) (hsz : zs.length < 4611686018427387904) :
    Calls Tryz.prog 76 #[.slice (some ⟨blk, off, none⟩) zs.length cap] w fun e w' =>
      e = .returned (.tuple #[]) ∧ ∃ n os, w' = grow (putRow (Value.int .i64) (Sort.ahead w n) blk off (zs.mergeSort fun x y => decide (x ≤ y)).toArray) os := Any.slices_Sort_int Sh_lays189 blk off cap zs w hH hblk hsz

open Go.RowKit Go.Sort in
theorem Sh_slices_Sort_int_none (p : Option Addr) (cap : Nat) (w : World) :
    Calls Tryz.prog 76 #[.slice p 0 cap] w fun e w' => e = .returned (.tuple #[]) ∧ w' = w := Any.slices_Sort_int_none Sh_lays189 p cap w

theorem sortOwn (a : Option Addr) (cap : Nat) (xs : List Int) (B : Nat) (w : World) (hl : xs.length ≤ 1048576) (ho : OwnI w B (.slice a xs.length cap) xs) :
    Calls Tryz.prog 76 #[.slice a xs.length cap] w fun e w' => e = .returned (.tuple #[]) ∧ OwnI w' B (.slice a (srt xs).length cap) (srt xs) ∧ w.grownBy w' (Value.slice a xs.length cap).ownBlock := by
  rcases ho.2 with ⟨e0, h0⟩ | ⟨g, cap', cur, e0, hbase, hb, h1, h2, h3, h4⟩
  · have hx : xs = [] := List.length_eq_zero_iff.1 h0
    subst hx
    refine (Sh_slices_Sort_int_none a cap w).mono ?_
    rintro e w' ⟨rfl, rfl⟩
    exact ⟨rfl, by rw [show srt [] = [] from by simp [srt]]; exact ho, World.grownBy.refl _ _⟩
  · simp only [Value.slice.injEq] at e0
    obtain ⟨rfl, -, rfl⟩ := e0
    have hh := Go.holds_of_blockI (ss := xs) hb (by simpa using h4)
    refine (Sh_slices_Sort_int g 0 cap xs w hh ((Array.getElem?_eq_some_iff.1 hb).1) (by omega)).mono ?_
    rintro e w' ⟨rfl, nn, os, rfl⟩
    refine ⟨rfl, ?_, Go.grownBy_sortedI _⟩
    have := Go.ownsRow_sortedI (n := nn) (os := os) (ss := xs) (ts := srt xs) (srt_len xs) hbase hb h1 h2 h3
    unfold OwnI
    rw [srt_len]
    exact this

def Sh_laysNm220_ren : Go.Shelf.Ren := ⟨fun | 20 => 77 | n => n, fun | 22 => 24 | 3 => 3 | 4 => 4 | 0 => 0 | n => n, fun | n => n⟩
theorem Sh_laysNm220 : Go.Proofs.Lays2.n20 Tryz.prog Sh_laysNm220_ren := {
  mixed := by kernel_rfl
  f20 := Tryz.func77.trans (congrArg some (by kernel_rfl))
  t0 := Tryz.underlying0
  a0 := Tryz.isAgg0
  z0 := Tryz.sizeOf0
  v0 := Tryz.zeroValue0
  t3 := Tryz.underlying3
  a3 := Tryz.isAgg3
  z3 := Tryz.sizeOf3
  v3 := Tryz.zeroValue3
  t4 := Tryz.underlying4
  a4 := Tryz.isAgg4
  z4 := Tryz.sizeOf4
  v4 := Tryz.zeroValue4
  t22 := Tryz.underlying24
  a22 := Tryz.isAgg24
  z22 := Tryz.sizeOf24
  v22 := Tryz.zeroValue24
  i3 := by kernel_rfl }

open Go.RowKit Go.Lib Go.Sort in
theorem Sh_slices_Compact_int (blk off cap : Nat) (zs : List Int) (w : World) (hH : Holds (Value.int .i64) w blk off zs.toArray) (hsz : zs.length ≤ 9223372036854775807) (hcap : zs.length ≤ cap) :
    Calls Tryz.prog 77 #[.slice (some ⟨blk, off, none⟩) zs.length cap] w fun e w' => e = .returned (.slice (some ⟨blk, off, none⟩) (Lib.compact zs).length cap) ∧ ∃ q, w' = putRow (Value.int .i64) (Sort.ahead w q) blk off (Lib.compact zs ++ List.replicate (zs.length - (Lib.compact zs).length) 0).toArray := Any.slices_Compact_int Sh_laysNm220 blk off cap zs w hH hsz hcap

open Go.RowKit Go.Lib Go.Sort in
theorem Sh_slices_Compact_int_empty (a : Option Addr) (cap : Nat) (w : World) :
    Calls Tryz.prog 77 #[.slice a 0 cap] w fun e w' => e = .returned (.slice a 0 cap) ∧ w' = w := Any.slices_Compact_int_empty Sh_laysNm220 a cap w

theorem compactOwn (a : Option Addr) (cap : Nat) (xs : List Int) (B : Nat) (w : World) (ho : OwnI w B (.slice a xs.length cap) xs) :
    Calls Tryz.prog 77 #[.slice a xs.length cap] w fun e w' => e = .returned (.slice a (Go.Lib.compact xs).length cap) ∧ OwnI w' B (.slice a (Go.Lib.compact xs).length cap) (Go.Lib.compact xs) ∧ w.grownBy w' (Value.slice a xs.length cap).ownBlock := by
  rcases ho.2 with ⟨e0, h0⟩ | ⟨g, cap', cur, e0, hbase, hb, h1, h2, h3, h4⟩
  · have hx : xs = [] := List.length_eq_zero_iff.1 h0
    subst hx
    refine (Sh_slices_Compact_int_empty a cap w).mono ?_
    rintro e w' ⟨rfl, rfl⟩
    exact ⟨rfl, ho, World.grownBy.refl _ _⟩
  · simp only [Value.slice.injEq] at e0
    obtain ⟨rfl, -, rfl⟩ := e0
    have hh := Go.holds_of_blockI (ss := xs) hb (by simpa using h4)
    have hcl := Go.Lib.compact_length_le xs
    refine (Sh_slices_Compact_int g 0 cap xs w hh (by unfold maxLen at h2; omega) h1).mono ?_
    rintro e w' ⟨rfl, nn, rfl⟩
    have hg := Go.grownBy_sortedI (w := w) (g := g) (n := nn) (os := #[]) (Go.Lib.compact xs ++ List.replicate (xs.length - (Go.Lib.compact xs).length) 0).toArray
    have ho := Go.ownsRow_sortedI (n := nn) (os := #[]) (ss := xs) (ts := Go.Lib.compact xs ++ List.replicate (xs.length - (Go.Lib.compact xs).length) 0) (by rw [List.length_append, List.length_replicate]; omega) hbase hb h1 h2 h3
    rw [Go.Sort.grow_empty] at hg ho
    refine ⟨rfl, ?_, hg⟩
    have hc := ownsRow_cut ho hcl
    have e1 : (List.map (Value.int .i64) (Go.Lib.compact xs ++ List.replicate (xs.length - (Go.Lib.compact xs).length) 0)).take (Go.Lib.compact xs).length = (Go.Lib.compact xs).map (Value.int .i64) := by
      rw [← List.map_take, List.take_left']
      rfl
    rw [e1] at hc
    exact hc

theorem bang (l : List Int) {j : Nat} (h : j < l.length) : l.toArray[j]! = nth l j := by
  rw [getElem!_pos l.toArray j (by simpa using h), nth_get l j h]; simp
theorem cu_inc {l : List Int} (h : l.Pairwise (· ≤ ·)) : ∀ m, m ≤ l.length → Inc (Go.Lib.compactUpTo l.toArray m) ∧ (∀ x, x ∈ Go.Lib.compactUpTo l.toArray m ↔ ∃ j, j < m ∧ nth l j = x)
  | 0, _ => ⟨List.Pairwise.nil, fun x => by simp [Go.Lib.compactUpTo]⟩
  | m+1, hm => by
    obtain ⟨h1, h2⟩ := cu_inc h m (by omega)
    have hle : ∀ i j, i ≤ j → j < l.length → nth l i ≤ nth l j := fun i j hij hj => by
      rw [nth_get _ _ (by omega), nth_get _ _ hj]
      rcases Nat.lt_or_eq_of_le hij with h3 | rfl
      · exact (List.pairwise_iff_getElem.1 h) i j (by omega) hj h3
      · exact Int.le_refl _
    rw [Go.Lib.compactUpTo_succ, bang l (by omega)]
    cases hk : Go.Lib.keeps l.toArray m
    · rw [if_neg (by simp), List.append_nil]
      refine ⟨h1, fun x => ?_⟩
      rw [h2]
      constructor
      · rintro ⟨j, hj, e⟩
        exact ⟨j, by omega, e⟩
      · rintro ⟨j, hj, e⟩
        by_cases e2 : j = m
        · subst e2
          simp only [Go.Lib.keeps, decide_eq_false_iff_not, not_or, ne_eq, Classical.not_not] at hk
          rw [bang l (by omega), bang l (by omega)] at hk
          exact ⟨j - 1, by omega, by rw [← hk.2]; exact e⟩
        · exact ⟨j, by omega, e⟩
    · rw [if_pos rfl]
      constructor
      · unfold Inc
        rw [List.pairwise_append]
        refine ⟨h1, List.pairwise_singleton _ _, fun a ha b hb => ?_⟩
        rw [List.mem_singleton] at hb
        subst hb
        obtain ⟨j, hj, rfl⟩ := (h2 a).1 ha
        simp only [Go.Lib.keeps, decide_eq_true_eq] at hk
        rw [bang l (by omega), bang l (by omega)] at hk
        have hne : nth l m ≠ nth l (m - 1) := hk.resolve_left (by omega)
        have := hle j (m - 1) (by omega) (by omega)
        have := hle (m - 1) m (by omega) (by omega)
        omega
      · intro x
        rw [List.mem_append, h2, List.mem_singleton]
        constructor
        · rintro (⟨j, hj, e⟩ | e)
          · exact ⟨j, by omega, e⟩
          · exact ⟨m, by omega, e.symm⟩
        · rintro ⟨j, hj, e⟩
          by_cases e2 : j = m
          · subst e2; exact .inr e.symm
          · exact .inl ⟨j, by omega, e⟩
theorem compact_inc {l : List Int} (h : l.Pairwise (· ≤ ·)) : Inc (Go.Lib.compact l) := (cu_inc h l.length (Nat.le_refl _)).1
theorem compact_mem {l : List Int} (h : l.Pairwise (· ≤ ·)) (x : Int) : x ∈ Go.Lib.compact l ↔ x ∈ l := by
  have := (cu_inc h l.length (Nat.le_refl _)).2 x
  rw [Go.Lib.compact, this]
  constructor
  · rintro ⟨j, hj, rfl⟩
    rw [nth_get _ _ hj]; exact List.getElem_mem _
  · intro hx
    obtain ⟨j, hj, rfl⟩ := List.getElem_of_mem hx
    exact ⟨j, hj, nth_get _ _ hj⟩

theorem belowSet_any (n : Int) (a : Option Addr) (xs : List Int) (cap : Nat) (i : Int) (w : World) (hx : Rd w a xs) (hr : RelP n xs) (hi : 0 ≤ i) :
    Calls Tryz.prog 47 #[.agg #[.int .i64 n, .slice a xs.length cap], .int .i64 i] w fun e w' => e = .returned (.int .i64 (belowTo xs i xs.length)) ∧ Below w.heap.size w w' := by
  have hx1 := hx.alloc (.cells #[.int .i64 n, .slice a xs.length cap] 31)
  have hn : xs.length ≤ 10 := by have := hr.len; have := hr.n1; omega
  go_enter Tryz.func47, Tryz.ntmps47
  go_wp2_with fail
  go_loop [5, 11] (fun s i' => ∃ k : Nat, k ≤ xs.length ∧ i' = .int .i64 k ∧ s = .int .i64 (belowTo xs i k)) (fun _ i => xs.length - (intOf i).toNat)
  case atStart => exact ⟨0, Nat.zero_le _, rfl, rfl⟩
  case round =>
    obtain ⟨k, hk, rfl, rfl⟩ := hrel
    by_cases hlt : k < xs.length
    · obtain ⟨b, off, rfl, hbl, hc⟩ := hx1.cell k hlt
      obtain ⟨b', off', e', hbl', hc'⟩ := hx.cell k hlt
      simp only [Option.some.injEq, Addr.mk.injEq, and_true] at e'
      obtain ⟨rfl, rfl⟩ := e'
      have hpk := hr.pos k hlt
      have hsk : nth xs k ≤ 9223372036854775807 := by have := hr.small k hlt; omega
      have hbs := belowTo_small xs i (k := k) (by omega)
      have hor := Lib.hid (or_bit (b := belowTo xs i k) (k := k) (by omega) (by omega))
      clear hbs
      cases hin : hasB (nth xs k) i
      · go_wp2_with (go_at_call 41; refine (hasElement_any _ _ _ hpk hsk hi).mono ?_; rintro e w' ⟨rfl, rfl⟩)
        go_round
        case rel => exact ⟨k + 1, by omega, by go_num, by simp [belowTo, hin]⟩
        case measure => simp [intOf]; omega
      · go_wp2_with (go_at_call 41; refine (hasElement_any _ _ _ hpk hsk hi).mono ?_; rintro e w' ⟨rfl, rfl⟩)
        go_round
        case rel => exact ⟨k + 1, by omega, by go_num, val_int (by rw [hor.out]; simp [belowTo, hin])⟩
        case measure => simp [intOf]; omega
    · obtain rfl : k = xs.length := by omega
      go_wp2_with fail
      go_ret
      exact ⟨rfl, (by repeat (first | exact Below.refl _ _ | assumption | refine Below.alloc ?_ (by first | exact Nat.le_refl _ | (simp only [World.size_alloc, World.size_setCell, World.size_drew]; omega) | omega) _ | refine Below.setCell ?_ (by first | exact Nat.le_refl _ | (simp only [World.size_alloc, World.size_setCell, World.size_drew]; omega) | omega) _ | refine Below.drew ?_))⟩

theorem belowSets_any (n : Int) (a : Option Addr) (xs : List Int) (cap : Nat) (w : World) (hx : Rd w a xs) (hr : RelP n xs) :
    Calls Tryz.prog 60 #[.agg #[.int .i64 n, .slice a xs.length cap]] w fun e w' => ∃ a' cap', e = .returned (.slice a' xs.length cap') ∧ OwnI w' w.heap.size (.slice a' xs.length cap') (belows xs xs.length) ∧ Below w.heap.size w w' := by
  obtain ⟨i0, hi, hz0, hz1, hz2⟩ := info_parts infoInt
  have hn0 := hr.n0
  have hn1 := hr.n1
  obtain rfl : n = (xs.length : Int) := hr.len.symm
  have hn : xs.length ≤ 10 := by omega
  go_enter Tryz.func60, Tryz.ntmps60
  go_wp2_with (at_make; refine wpList_make_full _ rfl (.tmp 6) (.tmp 6) 24 rfl (w.heap.size + 1) 3 i0 (.int .i64 0) 1 Tryz.underlying24 hi hz0 hz1 .i64 .i64 _ _ xs.length rfl rfl rfl rfl (by rw [hz2]; omega) (by unfold maxLen; omega) (by simp) ?_; intro w1 hown hgrow)
  have hb0 : Below w.heap.size w w1 := ((Below.refl _ _).alloc (Nat.le_refl _) _).grown hgrow (by simp) (fun k h => by cases h)
  have hown0 := made_ints (fun i => ((belowTo xs i xs.length : Nat) : Int)) hown
  have B1 : Box2 w1 w.heap.size (.int .i64 (xs.length : Int)) (.slice a xs.length cap) := (Box2.new w _ _ _).kept hgrow (by simp)
  have hx1 : Rd w1 a xs := hx.below hb0
  clear hown hgrow
  simp only [World.size_alloc] at *
  have hz : w.heap.size + 1 < w1.heap.size := by
    have := (World.ownsRow.lt hown0 (w.heap.size + 1) rfl).2
    omega
  go_wp2_with fail
  go_loopw [10] (fun i wr => ∃ k : Nat, k ≤ xs.length ∧ i = .int .i64 k ∧ wr.ownsRow (w.heap.size + 1) 3 1 (.slice (some ⟨w.heap.size + 1, 0, none⟩) xs.length xs.length) xs.length ((fmap (fun i => ((belowTo xs i xs.length : Nat) : Int)) k ++ List.replicate (xs.length - k) (0:Int)).map (Value.int .i64)) ∧ Below w.heap.size w wr ∧ Box2 wr w.heap.size (.int .i64 (xs.length : Int)) (.slice a xs.length cap)) (fun i _ => xs.length - (intOf i).toNat)
  case atStart => exact ⟨0, Nat.zero_le _, rfl, hown0, hb0, B1⟩
  case round =>
    obtain ⟨k, hk, rfl, hown, hb, hB⟩ := hrel
    have ⟨zr, cr, dr⟩ := hB
    by_cases hlt : k < xs.length
    · go_wp2_with fail
      refine (belowSet_any _ _ _ _ _ _ (hx.below hb) hr (by omega)).mono ?_
      rintro e w2 ⟨rfl, hb2⟩
      have hown2 : w2.ownsRow (w.heap.size + 1) 3 1 (.slice (some ⟨w.heap.size + 1, 0, none⟩) xs.length xs.length) xs.length _ := World.ownsRow.kept hown (below_grown hb2 (Nat.le_refl _) none) (.inr (by simp [Value.ownBlock]))
      have hst := World.ownsRow.stored hown2 k (.int .i64 ((belowTo xs k xs.length : Nat) : Int))
      rw [fill_step (fun i => ((belowTo xs i xs.length : Nat) : Int)) xs.length k hlt] at hst
      have hcc := World.ownsRow.cellAt hown2 k (by omega)
      have hfr := World.ownsRow.frozenAt hown2 k
      have hcc' : ∃ u, w2.cell? ⟨w.heap.size + 1, k, none⟩ = some u := by
        rw [hcc]
        exact ⟨_, List.getElem?_eq_getElem (by simp [fmap_len]; omega)⟩
      obtain ⟨u, hu⟩ := hcc'
      have hB2 := hB.below hb2
      have hB3 := hB2.kept hst.2 (by simp)
      have hbw := hb.trans (hb2.mono hb.size)
      have Hst := Lib.hid hst
      clear hst hcc hown hown2 hb2
      go_wp2_with fail
      go_roundw
      case rel => exact ⟨k + 1, by omega, by go_num, Hst.out.1, hbw.setCell (by simp) _, hB3⟩
      case measure => simp [intOf]; omega
    · obtain rfl : k = xs.length := by omega
      go_wp2_with fail
      go_ret
      rw [fill_end] at hown
      refine ⟨_, _, rfl, OwnI.mono (B := w.heap.size + 1) ?_ (by omega), hb⟩
      show World.ownsRow _ _ _ _ _ _ _
      rw [belows_len]
      exact hown

theorem sets_eq (xs : List Int) : Go.Lib.compact (srt (belows xs xs.length)) = sets xs := by
  refine inc_ext (compact_inc (srt_le _)) (setsTo_inc xs _) (fun x => ?_)
  rw [compact_mem (srt_le _), srt_mem, sets, setsTo_mem]
  simp only [belows, fmap, List.mem_map, List.mem_range]
  constructor
  · rintro ⟨j, hj, e⟩
    exact ⟨j, hj, e.symm⟩
  · rintro ⟨j, hj, e⟩
    exact ⟨j, hj, e.symm⟩
theorem lowerSets_any (n : Int) (a : Option Addr) (xs : List Int) (cap : Nat) (w : World) (hx : Rd w a xs) (hr : RelP n xs) :
    Calls Tryz.prog 43 #[.agg #[.int .i64 n, .slice a xs.length cap]] w fun e w' => ∃ a' cap', e = .returned (.slice a' (sets xs).length cap') ∧ OwnI w' w.heap.size (.slice a' (sets xs).length cap') (sets xs) ∧ Below w.heap.size w w' := by
  have hx1 := hx.alloc (.cells #[.int .i64 n, .slice a xs.length cap] 31)
  have HE := Lib.hid (sets_eq xs)
  go_enter Tryz.func43, Tryz.ntmps43
  go_wp2_with fail
  refine (belowSets_any _ _ _ _ _ hx1 hr).mono ?_
  rintro e w1 ⟨a1, cap1, rfl, ho1, hb1⟩
  have bw1 : Below w.heap.size w w1 := Below.trans (by repeat (first | exact Below.refl _ _ | assumption | refine Below.alloc ?_ (by first | exact Nat.le_refl _ | (simp only [World.size_alloc, World.size_setCell, World.size_drew]; omega) | omega) _ | refine Below.setCell ?_ (by first | exact Nat.le_refl _ | (simp only [World.size_alloc, World.size_setCell, World.size_drew]; omega) | omega) _ | refine Below.drew ?_)) (hb1.mono (by first | (simp only [World.size_alloc, World.size_setCell, World.size_drew]; omega) | omega))
  have o1 : OwnI w1 w.heap.size (.slice a1 (belows xs xs.length).length cap1) (belows xs xs.length) := by
    rw [belows_len]; exact ho1.mono (by simp)
  clear hb1 ho1
  go_wp2_with fail
  have hs := sortOwn a1 cap1 (belows xs xs.length) w.heap.size w1 (by rw [belows_len]; have := hr.len; have := hr.n1; omega) o1
  rw [belows_len] at hs
  refine hs.mono ?_
  rintro e w2 ⟨rfl, ho2, hg2⟩
  clear hs
  have hU := o1.lt
  rw [belows_len] at hU
  have bw2 := bw1.trans (below_of_grown hg2 (fun b e => (hU b e).1) bw1.size)
  have hsl : (srt (belows xs xs.length)).length = xs.length := by rw [srt_len, belows_len]
  have HSL := Lib.hid hsl
  clear hg2 hU o1 hsl
  go_wp2_with fail
  have hc := compactOwn a1 cap1 (srt (belows xs xs.length)) w.heap.size w2 ho2
  rw [HSL.out, HE.out] at hc
  refine hc.mono ?_
  rintro e w3 ⟨rfl, ho3, hg3⟩
  clear hc
  have hU := ho2.lt
  rw [HSL.out] at hU
  have bw3 := bw2.trans (below_of_grown hg3 (fun b e => (hU b e).1) bw2.size)
  clear hg3 hU ho2
  go_wp2_with fail
  go_ret
  exact ⟨a1, cap1, rfl, ho3, bw3⟩

theorem setsTo_L (xs : List Int) (k : Nat) : putL (setsTo xs k) ((belowTo xs (k : Int) xs.length : Nat) : Int) = setsTo xs (k+1) := rfl
theorem lessB_ne {s own : Int} (h : (s != own) = false) : lessB s own = false := by simp [lessB, h]
theorem lessB_val {s own : Int} (h : (s != own) = true) : lessB s own = (sub s.toNat own.toNat == 0) := by simp [lessB, h]
theorem lessB_sub {s : Int} {o : Nat} (h0 : 0 ≤ s) (h1 : s < 1024) (h2 : o < 1024) (h : (s != (o : Int)) = true) : (bits .andNot .i64 s (o : Int) == 0) = lessB s (o : Int) := by
  rw [lessB_val h, sub_i h0 (by omega) (by omega) (by omega), Int.toNat_natCast, Bool.eq_iff_iff, beq_iff_eq, beq_iff_eq]
  omega

theorem iLevels_any (n : Int) (a : Option Addr) (xs : List Int) (cap : Nat) (w : World) (hn : -9223372036854775808 ≤ n ∧ n ≤ 9223372036854775807) (hx : Rd w a xs) :
    Calls Tryz.prog 40 #[.agg #[.int .i64 n, .slice a xs.length cap]] w fun e w' => ∃ a' cap', e = .returned (.tuple #[.slice a' (levL n xs).length cap', .bool (isIv n xs)]) ∧ OwnI w' w.heap.size (.slice a' (levL n xs).length cap') (levL n xs) ∧ Below w.heap.size w w' := by
  have hx1 := hx.alloc (.cells #[.int .i64 n, .slice a xs.length cap] 31)
  obtain ⟨i0, hi, hz0, hz1, hz2⟩ := info_parts infoInt
  cases hr : isIv n xs
  · have H1 : Hid (levL n xs = []) := by simp [Hid, levL, hr]
    have HR := Lib.hid hr
    clear hr
    go_enter Tryz.func40, Tryz.ntmps40
    go_wp2_with fail
    refine (iIsInterval_any _ _ _ _ _ hn hx1).mono ?_
    rw [HR.out]
    rintro e w1 ⟨rfl, hb1⟩
    have bw1 : Below w.heap.size w w1 := Below.trans (by repeat (first | exact Below.refl _ _ | assumption | refine Below.alloc ?_ (by first | exact Nat.le_refl _ | (simp only [World.size_alloc, World.size_setCell, World.size_drew]; omega) | omega) _ | refine Below.setCell ?_ (by first | exact Nat.le_refl _ | (simp only [World.size_alloc, World.size_setCell, World.size_drew]; omega) | omega) _ | refine Below.drew ?_)) (hb1.mono (by first | (simp only [World.size_alloc, World.size_setCell, World.size_drew]; omega) | omega))
    go_wp2_with fail
    refine bodyPost_ret (v := .tuple #[.slice none 0 0, .bool false]) (by simp [results, Tryz.results40, go_sem]) rfl ?_
    exact ⟨none, 0, by rw [H1.out]; rfl, by rw [H1.out]; exact OwnI.nil _ _, bw1⟩
  · have ho := isIv_ord hr
    have hp := ord_rel ho
    have H1 : Hid (levL n xs = levs xs xs.length) := by simp [Hid, levL, hr]
    have HR := Lib.hid hr
    have HO := Lib.hid ho
    obtain rfl : n = (xs.length : Int) := hp.len.symm
    have hl10 : xs.length ≤ 10 := by have := hp.n1; omega
    clear hr ho
    go_enter Tryz.func40, Tryz.ntmps40
    go_wp2_with fail
    refine (iIsInterval_any _ _ _ _ _ hn hx1).mono ?_
    rw [HR.out, HO.out]
    rintro e w1 ⟨rfl, hb1⟩
    have A1 : Box2 w1 w.heap.size (.int .i64 (xs.length : Int)) (.slice a xs.length cap) := (Box2.new w _ _ _).below hb1
    have bw1 : Below w.heap.size w w1 := Below.trans (by repeat (first | exact Below.refl _ _ | assumption | refine Below.alloc ?_ (by first | exact Nat.le_refl _ | (simp only [World.size_alloc, World.size_setCell, World.size_drew]; omega) | omega) _ | refine Below.setCell ?_ (by first | exact Nat.le_refl _ | (simp only [World.size_alloc, World.size_setCell, World.size_drew]; omega) | omega) _ | refine Below.drew ?_)) (hb1.mono (by first | (simp only [World.size_alloc, World.size_setCell, World.size_drew]; omega) | omega))
    have ⟨zA, cA, dA⟩ := A1
    clear hb1
    go_wp2_with fail
    refine (lowerSets_any _ _ _ _ _ (hx.below bw1) hp).mono ?_
    obtain ⟨ss, hss⟩ : ∃ ss, ss = sets xs := ⟨_, rfl⟩
    have hbd : ∀ m, m < ss.length → 0 ≤ nth ss m ∧ nth ss m < 1024 := fun m hm => by rw [hss] at hm ⊢; exact setsTo_bd hl10 hm
    have hlv : ∀ i, lv xs i = ((lvTo ss ((belowTo xs (i : Int) xs.length : Nat) : Int) ss.length : Nat) : Int) := fun i => by rw [hss]; rfl
    have hsl : ss.length ≤ xs.length := by rw [hss]; exact sets_len xs
    rw [← hss]
    have HBD := Lib.hid hbd
    have HLV := Lib.hid hlv
    clear hss hbd hlv
    rintro e w2 ⟨a2, cap2, rfl, ho2, hb2⟩
    have A2 := A1.below hb2
    have bw2 := bw1.trans (hb2.mono bw1.size)
    have hrs := ho2.rd
    have zw2 : w.heap.size + 1 ≤ w2.heap.size := by have := A2.1; omega
    clear zA cA dA A1 hb2
    have ⟨zA, cA, dA⟩ := A2
    go_wp2_with (at_make; refine wpList_make_full _ rfl (.tmp 22) (.tmp 22) 24 rfl w2.heap.size 3 i0 (.int .i64 0) 1 Tryz.underlying24 hi hz0 hz1 .i64 .i64 _ _ xs.length rfl rfl rfl rfl (by rw [hz2]; omega) (by unfold maxLen; omega) (Nat.le_refl _) ?_; intro w3 hown hgrow; have A3 := A2.kept hgrow (by simp))
    have hb3 : Below w2.heap.size w2 w3 := (Below.refl _ _).grown hgrow (Nat.le_refl _) (fun k h => by cases h)
    have hown0 := made_row (lv xs) hown
    clear hown hgrow cA dA zA A2
    go_wp2_with fail
    go_loopw [26] (fun i wr => ∃ k : Nat, k ≤ xs.length ∧ i = .int .i64 k ∧ OwnI wr w2.heap.size (.slice (some ⟨w2.heap.size, 0, none⟩) xs.length xs.length) (rowF (lv xs) xs.length k) ∧ Below w2.heap.size w2 wr ∧ Box2 wr w.heap.size (.int .i64 (xs.length : Int)) (.slice a xs.length cap)) (fun i _ => xs.length - (intOf i).toNat)
    case atStart => exact ⟨0, Nat.zero_le _, rfl, hown0, hb3, A3⟩
    case round =>
      obtain ⟨k, hk, rfl, hown, hb, hA⟩ := hrel
      have ⟨zB, cB, dB⟩ := hA
      by_cases hlt : k < xs.length
      · have k0 : (0 : Int) ≤ (k : Int) := by omega
        have k1 : (k : Int) < (xs.length : Int) := by omega
        have hbt := belowTo_small xs (k : Int) (k := xs.length) hl10
        go_wp2_with fail
        refine (belowSet_any _ _ _ _ _ _ (hx.below (bw2.trans (hb.mono bw2.size))) hp k0).mono ?_
        rintro e w4 ⟨rfl, hb4⟩
        have A4 := hA.below hb4
        have b4 := hb.trans (hb4.mono hb.size)
        have o4 := hown.below hb4 (Nat.le_refl _)
        clear cB dB hb4 hown
        go_wp2_with fail
        go_loopw [34] (fun i' wi => ∃ j : Nat, j ≤ ss.length ∧ i' = .int .i64 j ∧ OwnI wi w2.heap.size (.slice (some ⟨w2.heap.size, 0, none⟩) xs.length xs.length) ((rowF (lv xs) xs.length k).set k ((lvTo ss ((belowTo xs (k : Int) xs.length : Nat) : Int) j : Nat) : Int)) ∧ Below w2.heap.size w2 wi ∧ Box2 wi w.heap.size (.int .i64 (xs.length : Int)) (.slice a xs.length cap)) (fun i _ => ss.length - (intOf i).toNat)
        case atStart => exact ⟨0, Nat.zero_le _, rfl, by rw [lvTo, show (((0 : Nat) : Nat) : Int) = 0 from rfl, rowF_zero _ hlt]; exact o4, b4, A4⟩
        case round =>
          obtain ⟨j, hj, rfl, hown, hb, hA⟩ := hrel
          by_cases hjl : j < ss.length
          · obtain ⟨b2, off2, rfl, hbl2, hc2⟩ := (hrs.below hb).cell j hjl
            have ⟨s0, s1⟩ := HBD.out j hjl
            have hle := lvTo_le ss ((belowTo xs (k : Int) xs.length : Nat) : Int) j
            cases hne : (nth ss j != ((belowTo xs (k : Int) xs.length : Nat) : Int))
            · have HN := Lib.hid (lessB_ne hne)
              go_wp2_with fail
              go_roundw
              case rel => exact ⟨j + 1, by omega, by go_num, by simp only [lvTo, HN.out]; exact hown, hb, hA⟩
              case measure => simp [intOf]; omega
            · have hsb := lessB_sub s0 s1 hbt hne
              cases hlb : lessB (nth ss j) ((belowTo xs (k : Int) xs.length : Nat) : Int)
              · rw [hlb] at hsb
                have HN := Lib.hid hlb
                clear hlb
                go_wp2_with fail
                go_roundw
                case rel => exact ⟨j + 1, by omega, by go_num, by simp only [lvTo, HN.out]; exact hown, hb, hA⟩
                case measure => simp [intOf]; omega
              · rw [hlb] at hsb
                have HN := Lib.hid hlb
                clear hlb
                obtain ⟨row, hrow⟩ : ∃ row, row = (rowF (lv xs) xs.length k).set k ((lvTo ss ((belowTo xs (k : Int) xs.length : Nat) : Int) j : Nat) : Int) := ⟨_, rfl⟩
                have hrl : row.length = xs.length := by rw [hrow, List.length_set, rowF_len _ hk]
                have hrk : nth row k = ((lvTo ss ((belowTo xs (k : Int) xs.length : Nat) : Int) j : Nat) : Int) := by rw [hrow, nth_set (by rw [rowF_len _ hk]; exact hlt), if_pos rfl]
                have hrs : ∀ y, row.set k y = (rowF (lv xs) xs.length k).set k y := by intro y; rw [hrow, List.set_set]
                rw [← hrow] at hown
                have ⟨ci, fi⟩ := hown.at' hrl.symm (i := k) (by omega)
                rw [hrk] at ci
                have hput := hown.put hrl.symm k ((lvTo ss ((belowTo xs (k : Int) xs.length : Nat) : Int) j + 1 : Nat) : Int)
                rw [hrs] at hput
                have HP := Lib.hid hput
                clear hput hrow hrl hrk hrs hown
                go_wp2_with fail
                go_roundw
                case rel =>
                  refine ⟨j + 1, by omega, by go_num, ?_, hb.setCell (p := ⟨w2.heap.size, k, none⟩) (Nat.le_refl _) _, hA.set (p := ⟨w2.heap.size, k, none⟩) _ (show w.heap.size ≠ w2.heap.size by omega)⟩
                  have := HP.out.1
                  simp only [lvTo, HN.out, if_true]
                  exact this
                case measure => simp [intOf]; omega
          · obtain rfl : j = ss.length := by omega
            have hnext : (rowF (lv xs) xs.length k).set k ((lvTo ss ((belowTo xs (k : Int) xs.length : Nat) : Int) ss.length : Nat) : Int) = rowF (lv xs) xs.length (k + 1) := by
              rw [← rowF_set _ hlt, HLV.out]
            rw [hnext] at hown
            have HN := Lib.hid hown
            clear hnext hown
            go_wp2_with fail
            go_roundw
            case rel => exact ⟨k + 1, by omega, by go_num, HN.out, hb, hA⟩
            case measure => simp [intOf]; omega
      · obtain rfl : k = xs.length := by omega
        rw [rowF_end] at hown
        go_wp2_with fail
        refine bodyPost_ret (v := .tuple #[.slice (some ⟨w2.heap.size, 0, none⟩) xs.length xs.length, .bool true]) (by simp [results, Tryz.results40, go_sem]) rfl ?_
        exact ⟨some ⟨w2.heap.size, 0, none⟩, xs.length, by rw [H1.out, levs_len], by rw [H1.out, levs_len]; exact hown.mono bw2.size, bw2.trans (hb.mono bw2.size)⟩

/-- the row while the right end of k is being found -/
def endRow (xs : List Int) (k j : Nat) : List Int := ((rowP (lv xs) (rtE xs) xs.length k).set (k * 2) (lv xs k)).set (k * 2 + 1) (rtTo 0 xs k j)
theorem endRow_len (xs : List Int) {k : Nat} (j : Nat) (h : k ≤ xs.length) : (endRow xs k j).length = xs.length * 2 := by
  rw [endRow, List.length_set, List.length_set, rowP_len _ _ h]
theorem endRow_zero (xs : List Int) {k : Nat} (h : k < xs.length) : (rowP (lv xs) (rtE xs) xs.length k).set (k * 2) (lv xs k) = endRow xs k 0 := by
  have hl := rowP_len (lv xs) (rtE xs) (Nat.le_of_lt h)
  apply nth_ext' (by rw [endRow_len xs 0 (by omega), List.length_set, hl])
  intro i hi
  rw [List.length_set, hl] at hi
  rw [endRow, nth_set' (xs := (rowP (lv xs) (rtE xs) xs.length k).set (k * 2) (lv xs k)) (by rw [List.length_set, hl]; omega)]
  by_cases e : k * 2 + 1 = i
  · subst e
    rw [if_pos rfl, nth_set' (by rw [hl]; omega), if_neg (by omega), rowP_nth _ _ (by omega) hi, if_neg (by omega)]
    rfl
  · rw [if_neg e]
theorem endRow_end (xs : List Int) {k : Nat} (h : k < xs.length) : endRow xs k xs.length = rowP (lv xs) (rtE xs) xs.length (k + 1) := rowP_next _ _ h
theorem endRow_set (xs : List Int) (k j : Nat) (y : Int) : (endRow xs k j).set (k * 2 + 1) y = ((rowP (lv xs) (rtE xs) xs.length k).set (k * 2) (lv xs k)).set (k * 2 + 1) y := by
  rw [endRow, List.set_set]
theorem endRow_nth (xs : List Int) {k : Nat} (j : Nat) (h : k < xs.length) : nth (endRow xs k j) (k * 2 + 1) = rtTo 0 xs k j := by
  rw [endRow, nth_set' (by rw [List.length_set, rowP_len _ _ (by omega)]; omega), if_pos rfl]
theorem endRow_yes {xs : List Int} {k j : Nat} (h : hasB (nth xs k) j = true) : endRow xs k (j+1) = endRow xs k j := by
  rw [endRow, endRow, rtTo, if_pos h]
theorem iEnds_any (n : Int) (a : Option Addr) (xs : List Int) (cap : Nat) (w : World) (hn : -9223372036854775808 ≤ n ∧ n ≤ 9223372036854775807) (hx : Rd w a xs) :
    Calls Tryz.prog 14 #[.agg #[.int .i64 n, .slice a xs.length cap]] w (GotV w (endN n xs) (endL n xs) (isIv n xs)) := by
  have hx1 := hx.alloc (.cells #[.int .i64 n, .slice a xs.length cap] 31)
  obtain ⟨i0, hi, hz0, hz1, hz2⟩ := info_parts infoIv
  cases hr : isIv n xs
  · have H1 : Hid (endN n xs = 0) := by simp [Hid, endN, hr]
    have H2 : Hid (endL n xs = []) := by simp [Hid, endL, hr]
    have H3 : Hid (levL n xs = []) := by simp [Hid, levL, hr]
    have HR := Lib.hid hr
    clear hr
    go_enter Tryz.func14, Tryz.ntmps14
    go_wp2_with fail
    refine (iLevels_any _ _ _ _ _ hn hx1).mono ?_
    rw [HR.out, H3.out]
    rintro e w1 ⟨a1, cap1, rfl, ho1, hb1⟩
    have bw1 : Below w.heap.size w w1 := Below.trans (by repeat (first | exact Below.refl _ _ | assumption | refine Below.alloc ?_ (by first | exact Nat.le_refl _ | (simp only [World.size_alloc, World.size_setCell, World.size_drew]; omega) | omega) _ | refine Below.setCell ?_ (by first | exact Nat.le_refl _ | (simp only [World.size_alloc, World.size_setCell, World.size_drew]; omega) | omega) _ | refine Below.drew ?_)) (hb1.mono (by first | (simp only [World.size_alloc, World.size_setCell, World.size_drew]; omega) | omega))
    clear ho1
    go_wp2_with fail
    refine bodyPost_ret (v := .tuple #[.slice none 0 0, .bool false]) (by simp [results, Tryz.results14, go_sem]) rfl ?_
    exact ⟨none, 0, by rw [H1.out], by rw [H1.out, H2.out]; exact OwnV.nil _ _, bw1⟩
  · have ho := isIv_ord hr
    have hp := ord_rel ho
    have H1 : Hid (endN n xs = xs.length) := by simp [Hid, endN, hr]
    have H2 : Hid (endL n xs = endp xs xs.length) := by simp [Hid, endL, hr]
    have H3 : Hid (levL n xs = levs xs xs.length) := by simp [Hid, levL, hr]
    have HR := Lib.hid hr
    obtain rfl : n = (xs.length : Int) := hp.len.symm
    have hl10 : xs.length ≤ 10 := by have := hp.n1; omega
    clear hr ho
    go_enter Tryz.func14, Tryz.ntmps14
    go_wp2_with fail
    refine (iLevels_any _ _ _ _ _ hn hx1).mono ?_
    rw [HR.out, H3.out, levs_len]
    rintro e w1 ⟨a1, cap1, rfl, ho1, hb1⟩
    have A1 : Box2 w1 w.heap.size (.int .i64 (xs.length : Int)) (.slice a xs.length cap) := (Box2.new w _ _ _).below hb1
    have bw1 : Below w.heap.size w w1 := Below.trans (by repeat (first | exact Below.refl _ _ | assumption | refine Below.alloc ?_ (by first | exact Nat.le_refl _ | (simp only [World.size_alloc, World.size_setCell, World.size_drew]; omega) | omega) _ | refine Below.setCell ?_ (by first | exact Nat.le_refl _ | (simp only [World.size_alloc, World.size_setCell, World.size_drew]; omega) | omega) _ | refine Below.drew ?_)) (hb1.mono (by first | (simp only [World.size_alloc, World.size_setCell, World.size_drew]; omega) | omega))
    have ⟨zA, cA, dA⟩ := A1
    have hrl : Rd w1 a1 (levs xs xs.length) := ho1.rd
    clear hb1 ho1
    go_wp2_with (at_make; refine wpList_make_full _ rfl (.tmp 19) (.tmp 19) 26 rfl w1.heap.size 65 i0 (.agg #[.int .i64 0, .int .i64 0]) 2 Tryz.underlying26 hi hz0 hz1 .i64 .i64 _ _ xs.length rfl rfl rfl rfl (by rw [hz2]; omega) (by unfold maxLen; omega) (Nat.le_refl _) ?_; intro w2 hown hgrow; have A2 := A1.kept hgrow (by simp))
    have hb2 : Below w1.heap.size w1 w2 := (Below.refl _ _).grown hgrow (Nat.le_refl _) (fun k h => by cases h)
    have hown0 := made_rowP (lv xs) (rtE xs) hown
    clear hown hgrow cA dA
    go_wp2_with fail
    go_loopw [23] (fun i wr => ∃ k : Nat, k ≤ xs.length ∧ i = .int .i64 k ∧ OwnV wr w1.heap.size (.slice (some ⟨w1.heap.size, 0, none⟩) xs.length xs.length) xs.length (rowP (lv xs) (rtE xs) xs.length k) ∧ Below w1.heap.size w1 wr ∧ Box2 wr w.heap.size (.int .i64 (xs.length : Int)) (.slice a xs.length cap)) (fun i _ => xs.length - (intOf i).toNat)
    case atStart => exact ⟨0, Nat.zero_le _, rfl, hown0, hb2, A2⟩
    case round =>
      obtain ⟨k, hk, rfl, hown, hb, hA⟩ := hrel
      by_cases hlt : k < xs.length
      · obtain ⟨b, off, rfl, hbl, hck⟩ := (hrl.below hb).cell k (by rw [levs_len]; exact hlt)
        rw [levs_nth xs hlt] at hck
        have k0 : (0 : Int) ≤ (k : Int) := by omega
        have k1 : (k : Int) < (xs.length : Int) := by omega
        have hpl := rowP_len (lv xs) (rtE xs) hk
        have ⟨c1, f1⟩ := hown.at' (i := k * 2) (by omega)
        have p1 := hown.put (k * 2) (lv xs k)
        rw [endRow_zero xs hlt] at p1
        have P1 := Lib.hid p1.1
        have A3 := hA.kept p1.2 (by simp; omega)
        have b3 := hb.setCell (p := ⟨w1.heap.size, k * 2, none⟩) (Nat.le_refl _) (.int .i64 (lv xs k))
        clear hown p1 hpl
        go_wp2_with fail
        go_loopw [35] (fun i' wi => ∃ j : Nat, j ≤ xs.length ∧ i' = .int .i64 j ∧ OwnV wi w1.heap.size (.slice (some ⟨w1.heap.size, 0, none⟩) xs.length xs.length) xs.length (endRow xs k j) ∧ Below w1.heap.size w1 wi ∧ Box2 wi w.heap.size (.int .i64 (xs.length : Int)) (.slice a xs.length cap)) (fun i _ => xs.length - (intOf i).toNat)
        case atStart => exact ⟨0, Nat.zero_le _, rfl, P1.out, b3, A3⟩
        case round =>
          obtain ⟨j, hj, rfl, hown, hb, hA⟩ := hrel
          have ⟨zB, cB, dB⟩ := hA
          by_cases hjl : j < xs.length
          · obtain ⟨b2, off2, e2, hbl2, hcj⟩ := (hrl.below hb).cell j (by rw [levs_len]; exact hjl)
            simp only [Option.some.injEq, Addr.mk.injEq, and_true] at e2
            obtain ⟨rfl, rfl⟩ := e2
            rw [levs_nth xs hjl] at hcj
            obtain ⟨b3, off3, rfl, hbl3, hc3⟩ := (hx.below (bw1.trans (hb.mono bw1.size))).cell k hlt
            have s0 := hp.pos k hlt
            have s2 : nth xs k ≤ 9223372036854775807 := by have := hp.small k hlt; omega
            have j0 : (0 : Int) ≤ (j : Int) := by omega
            have j1 : (j : Int) < (xs.length : Int) := by omega
            cases hhas : hasB (nth xs k) j
            · have hel := endRow_len xs (k := k) j hk
              have ⟨c2, f2⟩ := hown.at' (i := k * 2 + 1) (by omega)
              rw [endRow_nth xs j hlt] at c2
              have ⟨r0, r1⟩ := rtTo_bd (st := 0) (xs := xs) (i := k) (k := j) (by omega) (by omega)
              have ⟨l0, l1⟩ := lv_bd xs j
              have p2 := hown.put (k * 2 + 1) (rtTo 0 xs k (j + 1))
              rw [endRow_set] at p2
              have P2 := Lib.hid p2.1
              have A4 := hA.kept p2.2 (by simp; omega)
              have b4 := hb.setCell (p := ⟨w1.heap.size, k * 2 + 1, none⟩) (Nat.le_refl _) (.int .i64 (rtTo 0 xs k (j + 1)))
              have hmx : max (rtTo 0 xs k j) (lv xs j) = rtTo 0 xs k (j + 1) := by rw [rtTo_no hhas, maxI]; split <;> omega
              have HM := Lib.hid hmx
              clear p2 hel hown hmx
              go_wp2_with (go_at_call 41; refine (hasElement_any _ _ _ (by assumption) (by assumption) (by assumption)).mono ?_; rintro e w' ⟨rfl, rfl⟩)
              go_roundw
              case rel => rw [HM.out]; exact ⟨j + 1, by omega, by go_num, P2.out, b4, A4⟩
              case measure => simp [intOf]; omega
            · have HE := Lib.hid (endRow_yes hhas)
              go_wp2_with (go_at_call 41; refine (hasElement_any _ _ _ (by assumption) (by assumption) (by assumption)).mono ?_; rintro e w' ⟨rfl, rfl⟩)
              go_roundw
              case rel => exact ⟨j + 1, by omega, by go_num, by rw [HE.out]; exact hown, hb, hA⟩
              case measure => simp [intOf]; omega
          · obtain rfl : j = xs.length := by omega
            rw [endRow_end xs hlt] at hown
            go_wp2_with fail
            go_roundw
            case rel => exact ⟨k + 1, by omega, by go_num, hown, hb, hA⟩
            case measure => simp [intOf]; omega
      · obtain rfl : k = xs.length := by omega
        rw [rowP_end] at hown
        go_wp2_with fail
        refine bodyPost_ret (v := .tuple #[.slice (some ⟨w1.heap.size, 0, none⟩) xs.length xs.length, .bool true]) (by simp [results, Tryz.results14, go_sem]) rfl ?_
        exact ⟨some ⟨w1.heap.size, 0, none⟩, xs.length, by rw [H1.out], by rw [H1.out, H2.out]; exact hown.mono bw1.size, bw1.trans (hb.mono bw1.size)⟩

theorem ret_ib' {a a' : Int} {b b' : Bool} (h1 : a = a') (h2 : b = b') : Ending.returned (.tuple #[.int .i64 a, .bool b]) = .returned (.tuple #[.int .i64 a', .bool b']) := by rw [h1, h2]

theorem iMagnitude_any (n : Int) (a : Option Addr) (xs : List Int) (cap : Nat) (w : World) (hn : -9223372036854775808 ≤ n ∧ n ≤ 9223372036854775807) (hx : Rd w a xs) :
    Calls Tryz.prog 15 #[.agg #[.int .i64 n, .slice a xs.length cap]] w fun e w' => e = .returned (.tuple #[.int .i64 (magF n xs), .bool (isIv n xs)]) ∧ Below w.heap.size w w' := by
  have hx1 := hx.alloc (.cells #[.int .i64 n, .slice a xs.length cap] 31)
  cases hr : isIv n xs
  · have H1 : Hid (magF n xs = 0) := by simp [Hid, magF, hr]
    have HR := Lib.hid hr
    clear hr
    go_enter Tryz.func15, Tryz.ntmps15
    go_wp2_with fail
    refine (iIsInterval_any _ _ _ _ _ hn hx1).mono ?_
    rw [HR.out]
    rintro e w1 ⟨rfl, hb1⟩
    have bw1 : Below w.heap.size w w1 := Below.trans (by repeat (first | exact Below.refl _ _ | assumption | refine Below.alloc ?_ (by first | exact Nat.le_refl _ | (simp only [World.size_alloc, World.size_setCell, World.size_drew]; omega) | omega) _ | refine Below.setCell ?_ (by first | exact Nat.le_refl _ | (simp only [World.size_alloc, World.size_setCell, World.size_drew]; omega) | omega) _ | refine Below.drew ?_)) (hb1.mono (by first | (simp only [World.size_alloc, World.size_setCell, World.size_drew]; omega) | omega))
    go_wp2_with fail
    go_ret2
    exact ⟨ret_ib' H1.out.symm rfl, bw1⟩
  · have ho := isIv_ord hr
    have hp := ord_rel ho
    have hsl := sets_len xs
    have hl10 : xs.length ≤ 10 := by have := hp.len; have := hp.n1; omega
    have H1 : Hid (magF n xs = ((sets xs).length : Int)) := by rw [Hid, magF, if_pos hr]
    have HR := Lib.hid hr
    have HO := Lib.hid ho
    clear hr ho
    go_enter Tryz.func15, Tryz.ntmps15
    go_wp2_with fail
    refine (iIsInterval_any _ _ _ _ _ hn hx1).mono ?_
    rw [HR.out, HO.out]
    rintro e w1 ⟨rfl, hb1⟩
    have A1 : Box2 w1 w.heap.size (.int .i64 n) (.slice a xs.length cap) := (Box2.new w _ _ _).below hb1
    have bw1 : Below w.heap.size w w1 := Below.trans (by repeat (first | exact Below.refl _ _ | assumption | refine Below.alloc ?_ (by first | exact Nat.le_refl _ | (simp only [World.size_alloc, World.size_setCell, World.size_drew]; omega) | omega) _ | refine Below.setCell ?_ (by first | exact Nat.le_refl _ | (simp only [World.size_alloc, World.size_setCell, World.size_drew]; omega) | omega) _ | refine Below.drew ?_)) (hb1.mono (by first | (simp only [World.size_alloc, World.size_setCell, World.size_drew]; omega) | omega))
    have ⟨zA, cA, dA⟩ := A1
    clear hb1
    go_wp2_with fail
    refine (lowerSets_any _ _ _ _ _ (hx.below bw1) hp).mono ?_
    rintro e w2 ⟨a2, cap2, rfl, ho2, hb2⟩
    clear ho2
    go_wp2_with fail
    go_ret2
    exact ⟨ret_ib' H1.out.symm rfl, bw1.trans (hb2.mono bw1.size)⟩

theorem isRise_any (a : Option Addr) (xs : List Int) (n cap k : Nat) (w : World) (hx : Rd w a xs) (hk : k < xs.length) (hn : xs.length ≤ n) :
    Calls Tryz.prog 44 #[.slice a n cap, .int .i64 k] w fun e w' => e = .returned (.bool (riseB xs k)) ∧ Below w.heap.size w w' := by
  have hlen := hx.len
  by_cases h0 : k = 0
  · subst h0
    have HR : Hid (riseB xs 0 = false) := rfl
    go_enter Tryz.func44, Tryz.ntmps44
    go_wp2_with fail
    go_quiet (fail)
    go_wp2_with fail
    go_ret
    exact ⟨ret_bool HR.out.symm, Joins.below_draws _ _ _⟩
  · obtain ⟨b, off, rfl, hbl, hc⟩ := hx.cell k hk
    obtain ⟨b', off', e', hbl', hc'⟩ := hx.cell (k-1) (by omega)
    simp only [Option.some.injEq, Addr.mk.injEq, and_true] at e'
    obtain ⟨rfl, rfl⟩ := e'
    have hcast : IntKind.i64.wrap ((k : Int) - 1) = ((k - 1 : Nat) : Int) := by rw [i64_wrap, IntWalk.wrap64_in _ ⟨by omega, by omega⟩]; omega
    have hp : (0 : Int) < (k : Int) := by omega
    have hp2 : decide ((0 : Int) < (k : Int)) = true := by simp; omega
    have hp3 : 0 < k := by omega
    have HR : Hid (riseB xs k = decide (nth xs (k-1) < nth xs k)) := by simp [Hid, riseB]; omega
    go_enter Tryz.func44, Tryz.ntmps44
    go_wp2_with fail
    go_quiet (fail)
    go_wp2_with fail
    go_ret
    exact ⟨ret_bool HR.out.symm, Joins.below_draws _ _ _⟩

theorem iAscentsOf_any (a : Option Addr) (xs : List Int) (cap : Nat) (w : World) (hx : Rd w a xs) :
    Calls Tryz.prog 16 #[.slice a xs.length cap] w fun e w' => e = .returned (.tuple #[.int .i64 (aoN xs), .bool (ascB xs)]) ∧ Below w.heap.size w w' := by
  have hlen := hx.len
  go_enter Tryz.func16, Tryz.ntmps16
  go_wp2_with fail
  refine (iIsAscent_any _ _ _ _ hx).mono ?_
  rintro e w1 ⟨rfl, hb⟩
  cases hb0 : ascB xs
  · have H1 : Hid (aoN xs = 0) := by simp [Hid, aoN, hb0]
    have HB := Lib.hid hb0
    clear hb0
    go_wp2_with fail
    refine bodyPost_ret (v := .tuple #[.int .i64 0, .bool false]) (by simp [results, Tryz.results16, go_sem]) rfl ?_
    exact ⟨by rw [H1.out, HB.out], hb⟩
  · have H1 : Hid (aoN xs = (ascTo xs xs.length : Int)) := by simp [Hid, aoN, hb0]
    have h12 := (ascB_iff.1 hb0).1
    have HB := Lib.hid hb0
    clear hb0
    go_wp2_with fail
    go_loopw [4, 11] (fun s i wr => ∃ k : Nat, k ≤ xs.length ∧ i = .int .i64 k ∧ s = .int .i64 (ascTo xs k : Nat) ∧ Below w.heap.size w wr) (fun _ i _ => xs.length - (intOf i).toNat)
    case atStart => exact ⟨0, Nat.zero_le _, rfl, rfl, hb⟩
    case round =>
      clear hb
      obtain ⟨k, hk, rfl, rfl, hb⟩ := hrel
      have hak := ascTo_le xs k
      by_cases hlt : k < xs.length
      · cases hr : riseB xs k
        · have HS := Lib.hid (ascTo_no hr)
          have HR := Lib.hid hr
          clear hr
          go_wp2_with fail
          refine (isRise_any _ xs _ _ _ _ (hx.below hb) hlt (Nat.le_refl _)).mono ?_
          rintro e w2 ⟨rfl, hb2⟩
          rw [HR.out]
          go_wp2_with fail
          go_roundw
          case rel => exact ⟨k + 1, by omega, by go_num, by rw [HS.out], hb.trans (hb2.mono hb.size)⟩
          case measure => simp [intOf]; omega
        · have HS := Lib.hid (ascTo_yes hr)
          have HR := Lib.hid hr
          clear hr
          go_wp2_with fail
          refine (isRise_any _ xs _ _ _ _ (hx.below hb) hlt (Nat.le_refl _)).mono ?_
          rintro e w2 ⟨rfl, hb2⟩
          rw [HR.out]
          go_wp2_with fail
          go_roundw
          case rel => exact ⟨k + 1, by omega, by go_num, by rw [HS.out]; go_num, hb.trans (hb2.mono hb.size)⟩
          case measure => simp [intOf]; omega
      · obtain rfl : k = xs.length := by omega
        go_wp2_with fail
        refine bodyPost_ret (v := .tuple #[.int .i64 (ascTo xs xs.length : Nat), .bool true]) (by simp [results, Tryz.results16, go_sem]) rfl ?_
        exact ⟨by rw [H1.out, HB.out], hb⟩

theorem isElement_any (n : Int) (a : Option Addr) (len cap : Nat) (i : Int) (w : World) :
    Calls Tryz.prog 46 #[.agg #[.int .i64 n, .slice a len cap], .int .i64 i] w fun e w' => e = .returned (.bool (elemB i n)) ∧ Below w.heap.size w w' := by
  by_cases h0 : 0 ≤ i
  · by_cases h1 : i < n
    · have H := Lib.hid (elemB_iff.2 ⟨h0, h1⟩)
      go_enter Tryz.func46, Tryz.ntmps46
      go_wp2
      go_ret
      exact ⟨ret_bool (by rw [H.out]; try simp [h1]), (by repeat (first | exact Below.refl _ _ | assumption | refine Below.alloc ?_ (by first | exact Nat.le_refl _ | (simp only [World.size_alloc, World.size_setCell, World.size_drew]; omega) | omega) _ | refine Below.setCell ?_ (by first | exact Nat.le_refl _ | (simp only [World.size_alloc, World.size_setCell, World.size_drew]; omega) | omega) _ | refine Below.drew ?_))⟩
    · have H := Lib.hid (elemB_no.2 (.inr (show n ≤ i by omega)))
      go_enter Tryz.func46, Tryz.ntmps46
      go_wp2
      go_ret
      exact ⟨ret_bool (by rw [H.out]; try simp [h1]), (by repeat (first | exact Below.refl _ _ | assumption | refine Below.alloc ?_ (by first | exact Nat.le_refl _ | (simp only [World.size_alloc, World.size_setCell, World.size_drew]; omega) | omega) _ | refine Below.setCell ?_ (by first | exact Nat.le_refl _ | (simp only [World.size_alloc, World.size_setCell, World.size_drew]; omega) | omega) _ | refine Below.drew ?_))⟩
  · have H := Lib.hid (elemB_no (n := n).2 (.inl (show i < 0 by omega)))
    go_enter Tryz.func46, Tryz.ntmps46
    go_wp2
    go_ret
    exact ⟨ret_bool (by rw [H.out]), (by repeat (first | exact Below.refl _ _ | assumption | refine Below.alloc ?_ (by first | exact Nat.le_refl _ | (simp only [World.size_alloc, World.size_setCell, World.size_drew]; omega) | omega) _ | refine Below.setCell ?_ (by first | exact Nat.le_refl _ | (simp only [World.size_alloc, World.size_setCell, World.size_drew]; omega) | omega) _ | refine Below.drew ?_))⟩

theorem iBelowOf_any (n : Int) (a : Option Addr) (xs : List Int) (cap : Nat) (i : Int) (w : World) (hn : -9223372036854775808 ≤ n ∧ n ≤ 9223372036854775807) (hx : Rd w a xs) (hi : -9223372036854775808 ≤ i ∧ i ≤ 9223372036854775807) :
    Calls Tryz.prog 17 #[.agg #[.int .i64 n, .slice a xs.length cap], .int .i64 i] w fun e w' => e = .returned (.tuple #[.int .i64 (belowF n xs i), .bool (okE n xs i)]) ∧ Below w.heap.size w w' := by
  have hx1 := hx.alloc (.cells #[.int .i64 n, .slice a xs.length cap] 31)
  cases hr : relB n xs
  · have HE : Hid (okE n xs i = false) := by simp [Hid, okE, hr]
    have H2 : Hid (belowF n xs i = 0) := by simp [Hid, belowF, HE.out]
    go_enter Tryz.func17, Tryz.ntmps17
    go_wp2_with fail
    refine (iIsRelation_any _ _ _ _ _ hn hx1).mono ?_
    rintro e w1 ⟨rfl, hb1⟩
    have bw1 : Below w.heap.size w w1 := Below.trans (by repeat (first | exact Below.refl _ _ | assumption | refine Below.alloc ?_ (by first | exact Nat.le_refl _ | (simp only [World.size_alloc, World.size_setCell, World.size_drew]; omega) | omega) _ | refine Below.setCell ?_ (by first | exact Nat.le_refl _ | (simp only [World.size_alloc, World.size_setCell, World.size_drew]; omega) | omega) _ | refine Below.drew ?_)) (hb1.mono (by first | (simp only [World.size_alloc, World.size_setCell, World.size_drew]; omega) | omega))
    go_wp2_with fail
    go_ret2
    exact ⟨ret_ib H2.out.symm HE.out.symm, bw1⟩
  · cases he : elemB i n
    · have HE : Hid (okE n xs i = false) := by simp [Hid, okE, he]
      have H2 : Hid (belowF n xs i = 0) := by simp [Hid, belowF, HE.out]
      go_enter Tryz.func17, Tryz.ntmps17
      go_wp2_with fail
      refine (iIsRelation_any _ _ _ _ _ hn hx1).mono ?_
      rintro e w1 ⟨rfl, hb1⟩
      have B1 := (Box2.new w _ _ _).below hb1
      have ⟨z1, c1, d1⟩ := B1
      have bw1 : Below w.heap.size w w1 := Below.trans (by repeat (first | exact Below.refl _ _ | assumption | refine Below.alloc ?_ (by first | exact Nat.le_refl _ | (simp only [World.size_alloc, World.size_setCell, World.size_drew]; omega) | omega) _ | refine Below.setCell ?_ (by first | exact Nat.le_refl _ | (simp only [World.size_alloc, World.size_setCell, World.size_drew]; omega) | omega) _ | refine Below.drew ?_)) (hb1.mono (by first | (simp only [World.size_alloc, World.size_setCell, World.size_drew]; omega) | omega))
      go_wp2_with fail
      refine (isElement_any _ _ _ _ _ _).mono ?_
      rintro e w2 ⟨rfl, hb2⟩
      go_wp2_with fail
      go_ret2
      exact ⟨ret_ib H2.out.symm HE.out.symm, bw1.trans (hb2.mono bw1.size)⟩
    · have HE : Hid (okE n xs i = true) := by simp [Hid, okE, hr, he]
      have H2 : Hid (belowF n xs i = (belowTo xs i xs.length : Nat)) := by simp [Hid, belowF, HE.out]
      have hp := relB_p hr
      have hi0 := (elemB_iff.1 he).1
      go_enter Tryz.func17, Tryz.ntmps17
      go_wp2_with fail
      refine (iIsRelation_any _ _ _ _ _ hn hx1).mono ?_
      rintro e w1 ⟨rfl, hb1⟩
      have B1 := (Box2.new w _ _ _).below hb1
      have ⟨z1, c1, d1⟩ := B1
      have bw1 : Below w.heap.size w w1 := Below.trans (by repeat (first | exact Below.refl _ _ | assumption | refine Below.alloc ?_ (by first | exact Nat.le_refl _ | (simp only [World.size_alloc, World.size_setCell, World.size_drew]; omega) | omega) _ | refine Below.setCell ?_ (by first | exact Nat.le_refl _ | (simp only [World.size_alloc, World.size_setCell, World.size_drew]; omega) | omega) _ | refine Below.drew ?_)) (hb1.mono (by first | (simp only [World.size_alloc, World.size_setCell, World.size_drew]; omega) | omega))
      go_wp2_with fail
      refine (isElement_any _ _ _ _ _ _).mono ?_
      rintro e w2 ⟨rfl, hb2⟩
      have ⟨z2, c2, d2⟩ := B1.below hb2
      have bw2 : Below w.heap.size w w2 := bw1.trans (hb2.mono bw1.size)
      go_wp2_with fail
      refine (belowSet_any _ _ _ _ _ _ (hx.below bw2) hp hi0).mono ?_
      rintro e w3 ⟨rfl, hb3⟩
      go_wp2_with fail
      go_ret2
      exact ⟨ret_ib H2.out.symm HE.out.symm, bw2.trans (hb3.mono bw2.size)⟩

def amL (xss : List (List Int)) : List Int := if mxB xss then asL xss else []
theorem amL_len (xss : List (List Int)) : (amL xss).length ≤ 1048576 := by
  unfold amL
  split
  · rename_i h
    have := of_mx h
    rw [asL, asF_len, asN]; omega
  · simp

/-- what a call hands back that makes a list -/
def GotI (w : World) (ys : List Int) (ok : Bool) (e : Ending) (w' : World) : Prop :=
  ∃ a cap, e = .returned (.tuple #[.slice a ys.length cap, .bool ok]) ∧ OwnI w' w.heap.size (.slice a ys.length cap) ys ∧ Below w.heap.size w w'
theorem gotI_no {w w' : World} {ys : List Int} {ok : Bool} (h1 : ys = []) (h2 : ok = false) (hb : Below w.heap.size w w') : GotI w ys ok (.returned (.tuple #[.slice none 0 0, .bool false])) w' :=
  ⟨none, 0, by rw [h1, h2]; rfl, by rw [h1]; exact OwnI.nil _ _, hb⟩

def aooL (n : Int) (xs : List Int) : List Int := if isIv n xs then amL (moL n xs) else []
theorem aooL_len (n : Int) (xs : List Int) : (aooL n xs).length ≤ 1048576 := by
  unfold aooL
  split
  · exact amL_len _
  · simp

set_option maxRecDepth 100000 in
set_option maxHeartbeats 1000000 in
theorem iMxOrd_any (n : Int) (a : Option Addr) (xs : List Int) (cap : Nat) (w : World) (hn : -9223372036854775808 ≤ n ∧ n ≤ 9223372036854775807) (hx : Rd w a xs) :
    Calls Tryz.prog 23 #[.agg #[.int .i64 n, .slice a xs.length cap]] w fun e w' => ∃ a0 c0 vl, e = .returned (.tuple #[.agg #[.slice a0 (moL n xs).length c0], .bool (isIv n xs)]) ∧ RowsP w' w.heap.size (.slice a0 (moL n xs).length c0) vl (moL n xs) ∧ Below w.heap.size w w' := by
  have hlen := hx.len
  have hV := Var1.new (w.alloc (.cells #[.int .i64 n, .slice a xs.length cap] 31)) (.slice none 0 0) 45
  have hb0 : Below w.heap.size w ((w.alloc (.cells #[.int .i64 n, .slice a xs.length cap] 31)).alloc (.cells #[.slice none 0 0] 45)) := (by repeat (first | exact Below.refl _ _ | assumption | refine Below.alloc ?_ (by first | exact Nat.le_refl _ | (simp only [World.size_alloc, World.size_setCell, World.size_drew]; omega) | omega) _ | refine Below.setCell ?_ (by first | exact Nat.le_refl _ | (simp only [World.size_alloc, World.size_setCell, World.size_drew]; omega) | omega) _ | refine Below.drew ?_))
  have hA := (Box2.new w (.int .i64 n) (.slice a xs.length cap) 31).below ((Below.refl _ _).alloc (Nat.le_refl _) (.cells #[.slice none 0 0] 45))
  rw [World.size_alloc] at hV
  have HCL := Lib.hid (fun W (h : Rd W a xs) => iEnds_any n a xs cap W hn h)
  cases hm : isIv n xs
  · have HM := Lib.hid hm
    have H1 : Hid (moL n xs = []) := by simp [Hid, moL, hm]
    clear hm
    go_enter Tryz.func23, Tryz.ntmps23
    go_wp2_with fail
    refine (HCL.out _ (hx.below hb0)).mono ?_
    rintro e w1 ⟨ag, cg, rfl, ho, hb⟩
    rw [HM.out]
    have b1 : Below w.heap.size w w1 := hb0.trans (hb.mono (by simp; omega))
    have hV1 := hV.below hb
    have ⟨⟨zV, cV⟩, fV⟩ := hV1
    clear hb hV ho
    go_wp2_with fail
    have hV2 := hV1.set (.slice none 0 0)
    have b2 := b1.setCell (p := ⟨w.heap.size + 1, 0, none⟩) (by simp) (.slice none 0 0)
    refine bodyPost_ret (v := .tuple #[.agg #[.slice none 0 0], .bool false]) (by have ⟨⟨_, q1⟩, _⟩ := hV2; simp [results, Tryz.results23, go_sem, q1]) rfl ?_
    exact ⟨none, 0, [], by rw [H1.out]; rfl, by rw [H1.out]; exact RowsP.nil _ _, b2⟩
  · have HM := Lib.hid hm
    have hp := ord_rel (isIv_ord hm)
    have h10 : xs.length ≤ 10 := by have := hp.len; have := hp.n1; omega
    have hsl := sets_len xs
    have HE : Hid (∀ k, k < xs.length → (0 ≤ lv xs k ∧ lv xs k < ((sets xs).length : Int)) ∧ (0 ≤ rtE xs k ∧ rtE xs k < ((sets xs).length : Int))) := fun k hk => ends_in hm hk
    have H1 : Hid (moL n xs = sqM (cntE xs xs.length) (sets xs).length (sets xs).length) := by rw [Hid, moL, if_pos hm]
    have H2 : Hid (magF n xs = ((sets xs).length : Int)) := by rw [Hid, magF, if_pos hm]
    have H3 : Hid (endL n xs = endp xs xs.length) := by rw [Hid, endL, if_pos hm]
    have H4 : Hid (endN n xs = xs.length) := by rw [Hid, endN, if_pos hm]
    obtain ⟨D, hD⟩ : ∃ D, D = (sets xs).length := ⟨_, rfl⟩
    rw [← hD] at hsl HE H1 H2
    have HX := Lib.hid hx
    have HN := Lib.hid hn
    clear hm hp hx hD hn
    go_enter Tryz.func23, Tryz.ntmps23
    go_wp2_with fail
    refine (HCL.out _ (HX.out.below hb0)).mono ?_
    rintro e w1 ⟨ag, cg, rfl, ho, hb⟩
    rw [HM.out]
    rw [H3.out, H4.out] at ho
    rw [H4.out]
    have b1 : Below w.heap.size w w1 := hb0.trans (hb.mono (by simp; omega))
    have hV1 := hV.below hb
    have hA1 := hA.below hb
    have ⟨zA, cA, dA⟩ := hA1
    have hz1 : w.heap.size + 2 ≤ w1.heap.size := by have := hb.size; simp at this; omega
    have HO := Lib.hid ho
    have HV1 := Lib.hid hV1
    clear hb hV hb0 HCL ho hV1 hA hA1
    go_wp2_with fail
    refine (iMagnitude_any n a xs cap _ HN.out (HX.out.below b1)).mono ?_
    rintro e w2 ⟨rfl, hb2⟩
    rw [H2.out]
    have b2 := b1.trans (hb2.mono b1.size)
    have HO2 := Lib.hid (HO.out.below hb2 (Nat.le_refl _))
    have HV2 := Lib.hid (HV1.out.below hb2)
    have hz2 : w.heap.size + 2 ≤ w2.heap.size := by have := hb2.size; omega
    clear hb2 HO HV1 cA dA
    go_wp2_with fail
    refine (zeroRows_any D _ (by omega)).mono ?_
    rintro e w3 ⟨g, vl, rfl, hro, hb3⟩
    have b3 := b2.trans (hb3.mono b2.size)
    have hbk := HO2.out.lt
    have HRO := Lib.hid (hro.mono (B' := w2.heap.size) (Nat.le_refl _))
    have HO3 := Lib.hid ((HO2.out.below hb3 (Nat.le_refl _)).rd (by omega))
    have HV3 := Lib.hid (HV2.out.below hb3)
    have hs3 := hb3.size
    have HRd : Hid (∀ W, Below w2.heap.size w2 W → Rd W ag (endp xs xs.length)) := fun W h => (HO2.out.rd (by omega)).below h
    have bb3 : Below w2.heap.size w2 w3 := hb3
    have hz : sqM (fun _ _ => 0) D D = sqM (cntE xs 0) D D := sqM_congr (fun i hi j hj => rfl)
    rw [hz] at HRO
    clear hro hb3 HO2 hbk hz
    go_wp2_with fail
    go_loopw [28] (fun i wr => ∃ k : Nat, k ≤ xs.length ∧ i = .int .i64 k ∧ RowsP wr w2.heap.size (.slice (some ⟨g, 0, none⟩) D D) vl (sqM (cntE xs k) D D) ∧ Below w2.heap.size w2 wr) (fun i _ => xs.length - (intOf i).toNat)
    case atStart => exact ⟨0, Nat.zero_le _, rfl, HRO.out, bb3⟩
    case round =>
      obtain ⟨k, hk, rfl, hro, hb⟩ := hrel
      have hbs := hb.size
      have HRO := Lib.hid hro
      by_cases hlt : k < xs.length
      · have k1 : (k : Int) < (xs.length : Int) := by omega
        obtain ⟨b5, off5, rfl, hb5, hcl, hcr⟩ := (HRd.out wr hb).pair (prs_len _ _ _) hlt
        rw [endp, prs_lft _ _ hlt] at hcl
        rw [endp, prs_rgt _ _ hlt] at hcr
        have ⟨⟨l0, l1⟩, ⟨r0, r1⟩⟩ := HE.out k hlt
        obtain ⟨L, hL⟩ := Int.eq_ofNat_of_zero_le l0
        obtain ⟨R, hR⟩ := Int.eq_ofNat_of_zero_le r0
        have HST : Hid (L < D → R < D → setM (sqM (cntE xs k) D D) L R (cntE xs k L R + 1) = sqM (cntE xs (k+1)) D D) := fun h1 h2 => cntE_step hL hR h1 h2
        rw [hL] at l0 l1 hcl
        rw [hR] at r0 r1 hcr
        have hLd : L < D := by omega
        have hRd : R < D := by omega
        clear hL hR
        obtain ⟨g4, e4, hg4, hg5, hc4, hf4⟩ := hro.outer (k := L) (by rw [sqM_len]; exact hLd)
        simp only [Option.some.injEq, Addr.mk.injEq, and_true] at e4
        subst e4
        obtain ⟨g6, c6, e6, hg6, hg7, hc6, hf6, hnew⟩ := hro.num (i := L) (j := R) (by rw [sqM_len]; exact hLd) (by rw [sqM_rlen hLd]; exact hRd)
        rw [e6, sqM_rlen hLd] at hc4
        rw [sqM_at hLd hRd] at hc6
        have hn2 := hnew (cntE xs k L R + 1)
        rw [HST.out hLd hRd] at hn2
        have ⟨hb1, hb2⟩ := cntE_bd xs L R k
        obtain ⟨Z, hZ⟩ : ∃ Z, Z = cntE xs k L R := ⟨_, rfl⟩
        rw [← hZ] at hc6 hn2 hb1 hb2
        have hal : Below w2.heap.size w2 ((wr.setCell ⟨g6, R, none⟩ (.int .i64 (Z + 1))).alloc (.cells #[.int .i64 (L : Int), .int .i64 (R : Int)] 65)) := (hb.setCell (p := ⟨g6, R, none⟩) hg6 _).alloc (by simpa using hbs) _
        have hn3 := hn2.below ((Below.refl _ _).alloc (Nat.le_refl _) (.cells #[.int .i64 (L : Int), .int .i64 (R : Int)] 65)) (Nat.le_refl _)
        have HN3 := Lib.hid hn3
        clear hro hnew hn2 hn3 e6 hZ
        go_wp2_with fail
        go_region
        all_goals
          go_wp2_with fail
          go_roundw
          case rel =>
            refine ⟨k + 1, by omega, by go_num, ?_, ?_⟩
            · first
              | exact HN3.out
              | exact HN3.out.below (Below.refl _ _).drew (Nat.le_refl _)
            · first
              | exact hal
              | exact hal.drew
          case measure => simp [intOf]; omega
      · obtain rfl : k = xs.length := by omega
        have hV := HV2.out.below hb
        have ⟨⟨zV, cV⟩, fV⟩ := hV
        have HV1 := Lib.hid hV
        have bw := b2.trans (hb.mono (by omega))
        clear hro hV
        go_wp2_with fail
        have hV2 := HV1.out.set (.slice (some ⟨g, 0, none⟩) D D)
        have b2 := bw.setCell (p := ⟨w.heap.size + 1, 0, none⟩) (by simp) (.slice (some ⟨g, 0, none⟩) D D)
        refine bodyPost_ret (v := .tuple #[.agg #[.slice (some ⟨g, 0, none⟩) D D], .bool true]) (by have ⟨⟨_, q1⟩, _⟩ := hV2; simp [results, Tryz.results23, go_sem, q1]) rfl ?_
        exact ⟨_, D, vl, by rw [H1.out, sqM_len], by rw [H1.out, sqM_len]; exact (HRO.out.setBelow (show w.heap.size + 1 < w2.heap.size by omega) _).mono (by omega), b2⟩

set_option maxRecDepth 100000 in
set_option maxHeartbeats 1000000 in
theorem takeOut_any (g c B n x : Nat) (vl : List Value) (f : Nat → Nat → Int) (w : World) (h : RowsP w B (.slice (some ⟨g, 0, none⟩) n c) vl (sqM f n n)) (hx : x < n) (hB : B ≤ w.heap.size) (hn : n ≤ 12) (hnc : n ≤ c) (hc : c ≤ 1048576) :
    Calls Tryz.prog 89 #[.slice (some ⟨g, 0, none⟩) n c, .int .i64 (x : Int)] w fun e w' => ∃ ul, e = .returned (.slice (some ⟨g, 0, none⟩) (n - 1) c) ∧ RowsP w' B (.slice (some ⟨g, 0, none⟩) (n - 1) c) ul (sqM (shF f n x) (n - 1) (n - 1)) ∧ Below B w w' := by
  have hxc : x ≤ c := by omega
  have hxn : x ≤ n := by omega
  have HSW := Lib.hid (fun c2 => swapLast_any g c c2 B n n x x vl f w h hxn hx (by omega) hB (by omega))
  have hgl := h.o.lt g rfl
  obtain ⟨F, hF⟩ : ∃ F, F = swF f n x x := ⟨_, rfl⟩
  have HSH : Hid (∀ m k, sqM (shF f n x) m k = sqM (fun a b => F (skp x a) (skp x b)) m k) := fun m k => by rw [hF]; rfl
  rw [← hF] at HSW
  clear hF h
  go_enter Tryz.func89, Tryz.ntmps89
  go_wp2_with fail
  refine (HSW.out _).mono ?_
  rintro e w1 ⟨rfl, hro1, hb1⟩
  have hsl : ∀ i, i < n → ∃ a m c, valAt vl i = .slice a m c := fun i hi => by
    obtain ⟨a9, c9, e9⟩ := (hro1.o.row i (by rw [sqM_len]; exact hi)).form
    exact ⟨a9, _, c9, e9⟩
  have hown := hro1.o.own
  rw [sqM_len] at hown
  have HDEL := Lib.hid (delRows_any g n c B x vl w1 hown hsl hx hnc hc)
  have HR1 := Lib.hid hro1
  have hs1 := hb1.size
  clear hro1 hsl hown HSW
  go_wp2_with fail
  refine HDEL.out.mono ?_
  rintro e w2 ⟨rfl, ho2, hg2⟩
  have hro2 := HR1.out.del hx ho2 hg2
  have b2 : Below B w w2 := hb1.trans (grown_below hg2 B (by omega) (by omega))
  obtain ⟨G2, hG2⟩ : ∃ G2 : Nat → Nat → Int, G2 = fun a b => F (skp x a) b := ⟨_, rfl⟩
  have HSH2 : Hid (∀ m k, sqM (shF f n x) m k = sqM (fun a b => G2 a (skp x b)) m k) := fun m k => by rw [HSH.out, hG2]
  rw [← hG2, ← tkM_zero (x := x)] at hro2
  have HR2 := Lib.hid hro2
  have hs2 : w.heap.size ≤ w2.heap.size := b2.size
  obtain ⟨ul0, hul0⟩ : ∃ ul0, ul0 = vl.take x ++ vl.drop (x+1) := ⟨_, rfl⟩
  rw [← hul0] at HR2
  obtain ⟨N1, hN1⟩ : ∃ N1, N1 = n - 1 := ⟨_, rfl⟩
  have HN1 := Lib.hid hN1
  have hN1n : N1 ≤ n := by omega
  rw [← hN1] at HR2 ⊢
  clear hro2 ho2 hg2 hG2 hul0 HDEL HR1 hN1
  go_wp2_with fail
  go_loopw [20] (fun i wr => ∃ (k : Nat) (ul : List Value), k ≤ N1 ∧ i = .int .i64 k ∧ RowsP wr B (.slice (some ⟨g, 0, none⟩) N1 c) ul (tkM G2 n x k) ∧ Below B w wr) (fun i _ => N1 - (intOf i).toNat)
  case atStart => exact ⟨0, _, Nat.zero_le _, rfl, HR2.out, b2⟩
  case round =>
    clear b2
    obtain ⟨k, ul, hk, rfl, hro, hb⟩ := hrel
    have hbs := hb.size
    by_cases hlt : k < N1
    · have k1 : (k : Int) < (N1 : Int) := by omega
      have hkl : k < n - 1 := by rw [← HN1.out]; exact hlt
      have hk9 : k < (tkM G2 n x k).length := by rw [tkM_len]; exact hkl
      obtain ⟨g4, e4, hg4, hg5, hc4, hf4⟩ := hro.outer hk9
      simp only [Option.some.injEq, Addr.mk.injEq, and_true] at e4
      subst e4
      have hrow := hro.o.row k hk9
      obtain ⟨ar, cr, er⟩ := hrow.form
      have hrl : (rowL (tkM G2 n x k) k).length = n := by rw [tkM_row hkl, if_neg (Nat.lt_irrefl k), fmap_len]
      have HRO := Lib.hid hro
      have HER := Lib.hid er
      have HTS := Lib.hid (tkM_step (f := G2) hkl hx)
      rw [er] at hc4 hrow
      have HDL := Lib.hid (delOwn ar cr x (rowL (tkM G2 n x k) k) B wr hrow (by rw [hrl]; exact hx))
      rw [hrl] at hc4 HDL HER
      have HNN : Hid (n - 1 = N1) := HN1.out.symm
      rw [HNN.out] at HDL
      clear hro hrow er hrl hk9 hkl
      go_wp2_with fail
      refine HDL.out.mono ?_
      rintro e w3 ⟨rfl, ho3, hg3⟩
      obtain ⟨g9, c9, e9, hg9, hg10, ⟨z9, hz9⟩, hf9, hnew⟩ := HRO.out.swapRow (k := k) (by rw [tkM_len, HNN.out]; exact hlt) (by rw [HER.out]; exact hg3) ho3 (by rw [HER.out]; cases ar <;> rfl)
      simp only [Value.slice.injEq, Option.some.injEq, Addr.mk.injEq, and_true] at e9
      obtain ⟨rfl, -, -⟩ := e9
      rw [HTS.out] at hnew
      have HNEW := Lib.hid hnew
      have hU := (HRO.out.o.row k (by rw [tkM_len, HNN.out]; exact hlt)).lt
      rw [HER.out] at hU
      have b3 := hb.trans (below_of_grown hg3 (fun c e => (hU c e).1) (by omega))
      have b4 := b3.setCell (p := ⟨g, k, none⟩) hg4 (.slice ar N1 cr)
      clear ho3 hg3 hnew hU
      go_wp2_with fail
      go_roundw
      case rel => exact ⟨k + 1, _, by omega, by go_num, HNEW.out, b4⟩
      case measure => simp [intOf]; omega
    · obtain rfl : k = N1 := by omega
      have HR := Lib.hid hro
      clear hro
      go_wp2_with fail
      go_ret
      have hf := HR.out
      rw [show tkM G2 n x k = sqM (fun a b => G2 a (skp x b)) k k by have h := tkM_end (f := G2) (n := n) (x := x); rw [← HN1.out] at h; exact h, ← HSH2.out] at hf
      rw [← HN1.out]
      exact ⟨ul, rfl, hf, hb⟩

def addB (s x : Int) : Bool := decide (0 ≤ x) && decide (s + x ≤ 12)
theorem addB_iff {s x : Int} : addB s x = true ↔ 0 ≤ x ∧ s + x ≤ 12 := by simp [addB]
def addW (b : Nat) (s x : Int) (w : World) : World := if addB s x = true then w.setCell ⟨b, 0, none⟩ (.int .i64 (s + x)) else w
theorem iAdd_any (b : Nat) (s x : Int) (v : Value) (w : World) (hv : Var2 w b (.int .i64 s) v) (h0 : 0 ≤ s ∧ s ≤ 12) :
    Calls Tryz.prog 90 #[.pointer (some ⟨b, 0, none⟩), .int .i64 x] w fun e w' => e = .returned (.bool (addB s x)) ∧ w' = addW b s x w := by
  have ⟨⟨z, c, d⟩, f, g⟩ := hv
  by_cases h1 : x < 0
  · have H : Hid (addB s x = false) := by rw [Hid, ← Bool.not_eq_true, addB_iff]; omega
    go_enter Tryz.func90, Tryz.ntmps90
    go_wp2_with fail
    go_ret
    exact ⟨ret_bool H.out.symm, by rw [addW, H.out]; rfl⟩
  · by_cases h2 : 12 - s < x
    · have H : Hid (addB s x = false) := by rw [Hid, ← Bool.not_eq_true, addB_iff]; omega
      go_enter Tryz.func90, Tryz.ntmps90
      go_wp2_with fail
      go_ret
      exact ⟨ret_bool H.out.symm, by rw [addW, H.out]; rfl⟩
    · have H : Hid (addB s x = true) := addB_iff.2 (by omega)
      go_enter Tryz.func90, Tryz.ntmps90
      go_wp2_with fail
      go_ret
      exact ⟨ret_bool H.out.symm, by rw [addW, H.out]; rfl⟩

theorem infoSum : (Tryz.prog.info? 115).map (fun i => (i.zero, i.size, i.bytes)) = some (some (.agg #[.int .i64 0, .slice none 0 0]), 2, 32) := by kernel_rfl
theorem valAt_end (vl : List Value) (v : Value) : valAt (vl ++ [v]) vl.length = v := by
  simp [valAt]
/-- the cells of the first k rows, each with its sum ahead of it -/
def pcs (xss : List (List Int)) (vl : List Value) : Nat → List Value
  | 0 => []
  | k+1 => pcs xss vl k ++ [.int .i64 (totR (rowL xss k)), valAt vl k]
theorem pcs_len (xss : List (List Int)) (vl : List Value) : ∀ k, (pcs xss vl k).length = k * 2
  | 0 => rfl
  | k+1 => by rw [pcs, List.length_append, pcs_len xss vl k]; simp; omega
theorem pcs_at {xss : List (List Int)} {vl : List Value} {i : Nat} : ∀ {k : Nat}, i < k → (pcs xss vl k)[i * 2]? = some (.int .i64 (totR (rowL xss i))) ∧ (pcs xss vl k)[i * 2 + 1]? = some (valAt vl i)
  | 0, h => by omega
  | k+1, h => by
    have hl := pcs_len xss vl k
    by_cases e : i = k
    · subst e
      rw [pcs, List.getElem?_append_right (by omega), List.getElem?_append_right (by omega), hl]
      refine ⟨?_, ?_⟩
      · rw [Nat.sub_self]; rfl
      · rw [show i * 2 + 1 - i * 2 = 1 by omega]; rfl
    · rw [pcs, List.getElem?_append_left (by omega), List.getElem?_append_left (by omega)]
      exact pcs_at (by omega)
theorem rowL_app {xss yss : List (List Int)} {k : Nat} (h : k < xss.length) : rowL (xss ++ yss) k = rowL xss k := by
  rw [rowL, rowL, List.getD_eq_getElem?_getD, List.getD_eq_getElem?_getD, List.getElem?_append_left h]
theorem rowL_last (xss : List (List Int)) (r : List Int) : rowL (xss ++ [r]) xss.length = r := by
  simp [rowL]
theorem rowL_take {xss : List (List Int)} {j k : Nat} (h : j < k) : rowL (xss.take k) j = rowL xss j := by
  rw [rowL, rowL, List.getD_eq_getElem?_getD, List.getD_eq_getElem?_getD, List.getElem?_take, if_pos h]
theorem take_snocR {xss : List (List Int)} {k : Nat} (h : k < xss.length) : xss.take (k+1) = xss.take k ++ [rowL xss k] := by
  rw [List.take_succ_eq_append_getElem h]
  simp [rowL, h]
theorem pcs_congr {xss yss : List (List Int)} {vl ul : List Value} : ∀ {k : Nat}, (∀ j, j < k → rowL xss j = rowL yss j ∧ valAt vl j = valAt ul j) → pcs xss vl k = pcs yss ul k
  | 0, _ => rfl
  | k+1, h => by rw [pcs, pcs, pcs_congr (fun j hj => h j (by omega)), (h k (by omega)).1, (h k (by omega)).2]
/-- rows with their sums, each row in a block of its own -/
structure SumP (w : World) (B : Nat) (v : Value) (vl : List Value) (xss : List (List Int)) : Prop where
  own : w.ownsRow B 115 2 v xss.length (pcs xss vl xss.length)
  vlen : vl.length = xss.length
  row : ∀ k, k < xss.length → OwnI w B (valAt vl k) (rowL xss k)
  apart : ∀ k, k < xss.length → ∀ c, (valAt vl k).ownBlock = some c → v.ownBlock ≠ some c
  pair : ∀ j k, j < k → k < xss.length → ∀ c, (valAt vl j).ownBlock = some c → (valAt vl k).ownBlock ≠ some c
theorem SumP.nil (w : World) (B : Nat) : SumP w B (.slice none 0 0) [] [] :=
  ⟨World.ownsRow_nil _ _ _ _, rfl, fun k hk => by simp at hk, fun k hk => by simp at hk, fun j k _ hk => by simp at hk⟩
theorem SumP.form {w : World} {B : Nat} {v : Value} {vl : List Value} {xss : List (List Int)} (h : SumP w B v vl xss) : ∃ a cap, v = .slice a xss.length cap := by
  rcases h.own.2 with ⟨rfl, h0⟩ | ⟨g, cap, cur, rfl, _⟩
  · exact ⟨none, 0, by rw [h0]⟩
  · exact ⟨_, _, rfl⟩
theorem SumP.below {w w' : World} {B B' : Nat} {v : Value} {vl : List Value} {xss : List (List Int)} (h : SumP w B v vl xss) (hb : Below B' w w') (hB : w.heap.size ≤ B') : SumP w' B v vl xss :=
  ⟨ownsRow_bel h.own hb hB, h.vlen, fun k hk => (h.row k hk).below hb hB, h.apart, h.pair⟩
theorem SumP.lt {w : World} {B : Nat} {v : Value} {vl : List Value} {xss : List (List Int)} (h : SumP w B v vl xss) : ∀ b, v.ownBlock = some b → B ≤ b ∧ b < w.heap.size := World.ownsRow.lt h.own
theorem SumP.blk {w : World} {B : Nat} {v : Value} {vl : List Value} {xss : List (List Int)} (h : SumP w B v vl xss) : (∀ c, v.ownBlock = some c → c < w.heap.size) ∧ ∀ k, k < xss.length → ∀ c, (valAt vl k).ownBlock = some c → c < w.heap.size :=
  ⟨fun c e => (h.lt c e).2, fun k hk c e => ((h.row k hk).lt c e).2⟩
theorem SumP.mono {w : World} {B B' : Nat} {v : Value} {vl : List Value} {xss : List (List Int)} (h : SumP w B v vl xss) (hB : B' ≤ B) : SumP w B' v vl xss := by
  refine ⟨⟨h.own.1, ?_⟩, h.vlen, fun k hk => (h.row k hk).mono hB, h.apart, h.pair⟩
  rcases h.own.2 with hn | ⟨g, cap, cur, e, hb, rest⟩
  · exact .inl hn
  · exact .inr ⟨g, cap, cur, e, by omega, rest⟩
/-- the cells of a part -/
theorem SumP.at {w : World} {B n cap : Nat} {a : Option Addr} {vl : List Value} {xss : List (List Int)} (h : SumP w B (.slice a n cap) vl xss) {k : Nat} (hk : k < xss.length) : ∃ g, a = some ⟨g, 0, none⟩ ∧ g < w.heap.size ∧ w.cell? ⟨g, k * 2, none⟩ = some (.int .i64 (totR (rowL xss k))) ∧ w.cell? ⟨g, k * 2 + 1, none⟩ = some (valAt vl k) := by
  rcases h.own.2 with ⟨e, h0⟩ | ⟨g, cap3, cur, e, hb, hg, hn, hm, hs, ht⟩
  · omega
  · simp only [Value.slice.injEq] at e
    obtain ⟨rfl, rfl, rfl⟩ := e
    have ⟨h1, h2⟩ := pcs_at (xss := xss) (vl := vl) hk
    exact ⟨g, rfl, (Array.getElem?_eq_some_iff.1 hg).1, by rw [World.ownsRow.cellAt h.own (k*2) (by omega), h1], by rw [World.ownsRow.cellAt h.own (k*2+1) (by omega), h2]⟩
/-- one part more at the end -/
theorem SumP.snoc {w w' : World} {B C : Nat} {v v' : Value} {vl : List Value} {xss : List (List Int)} {u : Value} {r : List Int} (h : SumP w B v vl xss) (hr : OwnI w C u r) (hBC : B ≤ C) (hvC : ∀ c, v.ownBlock = some c → c < C) (hrC : ∀ k, k < xss.length → ∀ c, (valAt vl k).ownBlock = some c → c < C)
    (ho : w'.ownsRow B 115 2 v' (xss.length + 1) (pcs xss vl xss.length ++ [.int .i64 (totR r), u])) (hg : w.grownBy w' v.ownBlock) (hv' : v'.ownBlock = v.ownBlock ∨ ∃ m, w.heap.size ≤ m ∧ v'.ownBlock = some m) : SumP w' B v' (vl ++ [u]) (xss ++ [r]) := by
  have hl := h.vlen
  have e1 : ∀ k, k < xss.length → valAt (vl ++ [u]) k = valAt vl k := fun k hk => by rw [valAt, valAt, List.getD_eq_getElem?_getD, List.getD_eq_getElem?_getD, List.getElem?_append_left (by omega)]
  have e2 : valAt (vl ++ [u]) xss.length = u := by rw [← hl]; exact valAt_end vl u
  have hur := hr.lt
  refine ⟨?_, by simp [hl], fun k hk => ?_, fun k hk c hc hc2 => ?_, fun j k hjk hk c hc => ?_⟩
  · rw [List.length_append, List.length_singleton, pcs, e2, rowL_last, pcs_congr (yss := xss) (ul := vl) (fun j hj => ⟨rowL_app hj, e1 j hj⟩)]
    exact ho
  · rw [List.length_append, List.length_singleton] at hk
    by_cases e : k = xss.length
    · subst e
      rw [e2, rowL_last]
      exact (hr.mono hBC).kept hg (own_ne (fun c h1 h3 => by have := hvC c h3; have := (hur c h1).1; omega))
    · rw [e1 k (by omega), rowL_app (by omega)]
      exact (h.row k (by omega)).kept hg (own_ne (fun c h1 h3 => h.apart k (by omega) c h1 h3))
  · rw [List.length_append, List.length_singleton] at hk
    by_cases e : k = xss.length
    · subst e
      rw [e2] at hc
      have h1 := hur c hc
      rcases hv' with h3 | ⟨m, hm, h3⟩
      · rw [h3] at hc2; have := hvC c hc2; omega
      · rw [h3] at hc2; simp only [Option.some.injEq] at hc2; omega
    · rw [e1 k (by omega)] at hc
      have h1 := ((h.row k (by omega)).lt c hc).2
      rcases hv' with h3 | ⟨m, hm, h3⟩
      · rw [h3] at hc2; exact h.apart k (by omega) c hc hc2
      · rw [h3] at hc2; simp only [Option.some.injEq] at hc2; omega
  · rw [List.length_append, List.length_singleton] at hk
    rw [e1 j (by omega)] at hc
    by_cases e : k = xss.length
    · subst e
      rw [e2]
      intro h3
      have := hrC j (by omega) c hc
      have := (hur c h3).1
      omega
    · rw [e1 k (by omega)]
      exact h.pair j k hjk (by omega) c hc

theorem Var2.set0 {w : World} {b : Nat} {u v : Value} (h : Var2 w b u v) (u' : Value) : Var2 (w.setCell ⟨b, 0, none⟩ u') b u' v := by
  refine ⟨⟨by simpa using h.1.1, ?_, ?_⟩, by simpa using h.2.1, by simpa using h.2.2⟩
  · rw [World.cell?_setCell_same _ _ _ h.1.2.1]
  · rw [World.cell?_setCell_other _ _ _ _ (by simp)]; exact h.1.2.2

def addV (s x : Int) : Int := if addB s x = true then s + x else s
theorem iPut_any (b : Nat) (s x : Int) (v : Value) (ys : List Int) (w : World) (hv : Var2 w b (.int .i64 s) v) (h0 : 0 ≤ s ∧ s ≤ 12) (ho : OwnI w (b+1) v ys) (h63 : ys.length ≤ 1048576) :
    Calls Tryz.prog 135 #[.pointer (some ⟨b, 0, none⟩), .int .i64 x, .int .i64 x] w fun e w' => e = .returned (.bool (addB s x)) ∧ ∃ v', Var2 w' b (.int .i64 (addV s x)) v' ∧ OwnI w' (b+1) v' (ys ++ [x]) ∧ Below b w w' := by
  have ⟨⟨z, c, d⟩, f, g⟩ := hv
  have HV := Lib.hid hv
  obtain ⟨av, cv, rfl⟩ := ho.form
  have HO := Lib.hid ho
  clear hv ho
  go_enter Tryz.func135, Tryz.ntmps135
  go_wp2_with (at_builtin; refine push_at rfl _ _ rfl (z := x) rfl HO.out rfl (by omega) (by omega) ?_)
  intro v3 w3 o3 hg hat
  have hU := HO.out.lt
  have hv3 := HV.out.kept hg (ne_own (fun c e => by have := (hU c e).1; omega))
  have b3 : Below b w w3 := below_of_grown hg (fun c e => by have := (hU c e).1; omega) (by omega)
  have ⟨⟨z3, c3, d3⟩, f3, g3⟩ := hv3
  clear hg hat hU
  obtain ⟨a3, k3, rfl⟩ := o3.form
  rw [show (ys ++ [x]).length = ys.length + 1 by simp] at o3 ⊢
  go_wp2_with fail
  have hv4 := hv3.set1 (.slice a3 (ys.length + 1) k3)
  refine (iAdd_any b s x _ _ hv4 h0).mono ?_
  rintro e w5 ⟨rfl, hw5⟩
  have H : Hid (∃ v', Var2 w5 b (.int .i64 (addV s x)) v' ∧ OwnI w5 (b+1) v' (ys ++ [x]) ∧ Below b w w5) := by
    rw [hw5, addW, addV]
    cases addB s x
    · exact ⟨.slice a3 (ys.length + 1) k3, by simpa using hv4, by simpa using o3.setBelow (show b < b + 1 by omega) _, by simpa using b3.setCell (Nat.le_refl _) _⟩
    · exact ⟨.slice a3 (ys.length + 1) k3, by simpa using hv4.set0 _, by simpa using (o3.setBelow (show b < b + 1 by omega) _).setBelow (show b < b + 1 by omega) _, by simpa using (b3.setCell (Nat.le_refl _) _).setCell (Nat.le_refl _) _⟩
  clear hw5 hv4
  go_wp2_with fail
  go_ret
  exact ⟨rfl, H.out⟩

set_option maxRecDepth 100000 in
theorem iPutS_any (b : Nat) (s x : Int) (v : Value) (vl : List Value) (xss : List (List Int)) (r : List Int) (ra : Option Addr) (rc B C : Nat) (w : World) (hv : Var2 w b (.int .i64 s) v) (h0 : 0 ≤ s ∧ s ≤ 12)
    (hp : SumP w B v vl xss) (hr : OwnI w C (.slice ra r.length rc) r) (hbB : b + 1 ≤ B) (hBC : B ≤ C) (hC : C ≤ w.heap.size) (hvC : ∀ c, v.ownBlock = some c → c < C) (hrC : ∀ k, k < xss.length → ∀ c, (valAt vl k).ownBlock = some c → c < C) (h63 : xss.length ≤ 1048576) :
    Calls Tryz.prog 136 #[.pointer (some ⟨b, 0, none⟩), .agg #[.int .i64 (totR r), .slice ra r.length rc], .int .i64 x] w fun e w' => e = .returned (.bool (addB s x)) ∧ ∃ v', Var2 w' b (.int .i64 (addV s x)) v' ∧ SumP w' B v' (vl ++ [.slice ra r.length rc]) (xss ++ [r]) ∧ Below b w w' := by
  obtain ⟨i0, hi, hz0, hz1, hz2⟩ := info_parts infoSum
  have ⟨⟨z, c, d⟩, f, g⟩ := hv
  have HV := Lib.hid hv
  obtain ⟨av, cv, rfl⟩ := hp.form
  have HP := Lib.hid hp
  have HR := Lib.hid hr
  have HB := Lib.hid hvC
  have HRB := Lib.hid hrC
  have Hown := Lib.hid (ownsRow_bel hp.own (w' := ((w.alloc (.cells #[.int .i64 (totR r), .slice ra r.length rc] 115)).alloc (.cells #[.int .i64 (totR r), .slice ra r.length rc] 115)).drew) ((((Below.refl _ _).alloc (Nat.le_refl _) _).alloc (by simp) _).drew) (Nat.le_refl _))
  have hnews := cell_two_new (w.alloc (.cells #[.int .i64 (totR r), .slice ra r.length rc] 115)) (.int .i64 (totR r)) (.slice ra r.length rc) 115
  simp only [World.size_alloc] at hnews
  have Hnews := Lib.hid hnews
  have hpl := pcs_len xss vl xss.length
  have HPL := Lib.hid hpl
  clear hv hp hr hnews hvC hrC hpl
  obtain ⟨PC, hPC⟩ : ∃ PC, PC = pcs xss vl xss.length := ⟨_, rfl⟩
  have HPC := Lib.hid hPC
  rw [← hPC] at Hown HPL
  clear hPC
  obtain ⟨T, hT⟩ : ∃ T, T = totR r := ⟨_, rfl⟩
  have HT := Lib.hid hT
  rw [← hT] at Hown Hnews ⊢
  clear hT
  go_enter Tryz.func136, Tryz.ntmps136
  go_wp2_with fail
  go_region_law (refine step_append_lies _ (by rfl) _ _ _ (by rfl) B 115 i0 (.agg #[.int .i64 0, .slice none 0 0]) 2 32 Tryz.underlying106 hi hz0 hz1 hz2 rfl (by omega) (.slice av xss.length cv) xss.length PC (by rfl) Hown.out ⟨w.heap.size + 1, 0, none⟩ 1 1 [.int .i64 T, .slice ra r.length rc] (by rfl) (by rfl) Hnews.out (by intro u hu; simp at hu; rcases hu with rfl | rfl <;> rfl) (by omega) (by unfold maxLen; omega) (by omega) (by simp; omega) (w.heap.size + 2) (by simp) ?_; intro gg cap3 w3 hown3 hgrow hat hlt3; have hg2 : w.grownBy w3 (Value.slice av xss.length cv).ownBlock := grown_alloc_set (grown_alloc_set (o := .cells #[.int .i64 T, .slice ra r.length rc] 115) ⟨hgrow.os, hgrow.tape, hgrow.output, hgrow.size, hgrow.block⟩); have hv3 := HV.out.kept hg2 (ne_own (fun c e => by have := (HP.out.lt c e).1; omega)); have ⟨⟨z3, c3, d3⟩, f3, g3⟩ := hv3)
  all_goals
    have hp3 : SumP w3 B (.slice (some ⟨gg, 0, none⟩) (xss.length + 1) cap3) (vl ++ [.slice ra r.length rc]) (xss ++ [r]) := by
      refine HP.out.snoc HR.out hBC HB.out HRB.out ?_ hg2 ?_
      · rw [← HPC.out, ← HT.out]; exact hown3
      · rcases hat with h | h
        · exact .inl (by rw [h]; rfl)
        · exact .inr ⟨gg, by omega, rfl⟩
    have b3 : Below b w w3 := below_of_grown hg2 (fun c e => by have := (HP.out.lt c e).1; omega) (by omega)
    have hv4 := hv3.set1 (.slice (some ⟨gg, 0, none⟩) (xss.length + 1) cap3)
    clear hown3 hgrow hat hg2
    go_wp2_with fail
    refine (iAdd_any b s x _ _ hv4 h0).mono ?_
    rintro e w5 ⟨rfl, hw5⟩
    have hset : ∀ (p : Addr) (u : Value) (w9 : World), p.block = b → SumP w9 B (.slice (some ⟨gg, 0, none⟩) (xss.length + 1) cap3) (vl ++ [.slice ra r.length rc]) (xss ++ [r]) → SumP (w9.setCell p u) B (.slice (some ⟨gg, 0, none⟩) (xss.length + 1) cap3) (vl ++ [.slice ra r.length rc]) (xss ++ [r]) := fun p u w9 e h =>
      ⟨ownsRow_setCell_below h.own (by rw [e]; omega) u, h.vlen, fun k hk => (h.row k hk).setBelow (by rw [e]; omega) u, h.apart, h.pair⟩
    have H : Hid (∃ v', Var2 w5 b (.int .i64 (addV s x)) v' ∧ SumP w5 B v' (vl ++ [.slice ra r.length rc]) (xss ++ [r]) ∧ Below b w w5) := by
      rw [hw5, addW, addV]
      cases addB s x
      · exact ⟨.slice (some ⟨gg, 0, none⟩) (xss.length + 1) cap3, by simpa using hv4, by simpa using hset _ _ _ rfl hp3, by simpa using b3.setCell (Nat.le_refl _) _⟩
      · exact ⟨.slice (some ⟨gg, 0, none⟩) (xss.length + 1) cap3, by simpa using hv4.set0 _, by simpa using hset _ _ _ rfl (hset _ _ _ rfl hp3), by simpa using (b3.setCell (Nat.le_refl _) _).setCell (Nat.le_refl _) _⟩
    clear hw5 hv4 hset hp3
    go_wp2_with fail
    go_ret
    exact ⟨rfl, H.out⟩

theorem add_ok {s x : Int} (h : addB s x = true) : addV s x = s + x := by rw [addV, if_pos h]
/-- the first k rows may be rows -/
def adTo (xss : List (List Int)) (k : Nat) : Prop := ∀ i, i < k → (∀ j, j < (rowL xss i).length → 0 ≤ nth (rowL xss i) j) ∧ 0 < totR (rowL xss i)
theorem ad_no_num {xss : List (List Int)} {k j : Nat} (hk : k < xss.length) (hj : j < (rowL xss k).length) (hpre : ∀ i, i < j → 0 ≤ nth (rowL xss k) i) (h : addB (totI (rowL xss k) j) (nth (rowL xss k) j) = false) : adB xss = false := by
  rw [← Bool.not_eq_true]
  intro h2
  have ⟨h3, h4⟩ := adB_iff.1 h2
  have h5 := (adB_row h2 hk).2
  have h6 := totI_mono (xs := rowL xss k) (j := j + 1) (k := (rowL xss k).length) (by omega) (h3 k hk).1
  rw [totR] at h5
  rw [totI] at h6
  rw [← Bool.not_eq_true, addB_iff] at h
  exact h ⟨(h3 k hk).1 j hj, by omega⟩
theorem ad_no_row {xss : List (List Int)} {k : Nat} (hk : k < xss.length) (h : addB (matS xss k) (totR (rowL xss k)) = false) : adB xss = false := by
  rw [← Bool.not_eq_true]
  intro h2
  have ⟨h3, h4⟩ := adB_iff.1 h2
  have h5 := adB_row h2 hk
  have h6 := matS_mono (xss := xss) (j := k + 1) (k := xss.length) (by omega) (fun i hi => by have := (h3 i hi).2; omega)
  rw [matS] at h6
  rw [← Bool.not_eq_true, addB_iff] at h
  exact h ⟨by omega, by omega⟩
set_option maxRecDepth 100000 in
set_option maxHeartbeats 1000000 in
theorem iAddUp_any (a : Option Addr) (xss : List (List Int)) (cap : Nat) (w : World) (hx : RdS w a xss) (hs : xss.length + totS xss xss.length ≤ 1048576) :
    Calls Tryz.prog 107 #[.slice a xss.length cap] w fun e w' => ∃ s va vn vc, e = .returned (.tuple #[.agg #[.int .i64 s, .slice va vn vc], .bool (adB xss)]) ∧ (adB xss = true → s = matS xss xss.length ∧ ∃ vl, SumP w' w.heap.size (.slice va vn vc) vl xss) ∧ Below w.heap.size w w' := by
  have hlen := hx.len
  have HX := Lib.hid hx
  have HS := Lib.hid hs
  go_enter Tryz.func107, Tryz.ntmps107
  clear hx hs
  go_wp2_with fail
  go_loopw [12] (fun i wr => ∃ (k : Nat) (v : Value) (vl : List Value), k ≤ xss.length ∧ i = .int .i64 k ∧ Hid (adTo xss k) ∧ 0 ≤ matS xss k ∧ matS xss k ≤ 12 ∧ Var2 wr w.heap.size (.int .i64 0) (.slice none 0 0) ∧ Var2 wr (w.heap.size + 1) (.int .i64 (matS xss k)) v ∧ SumP wr (w.heap.size + 2) v vl (xss.take k) ∧ Below w.heap.size w wr) (fun i _ => xss.length - (intOf i).toNat)
  case atStart => exact ⟨0, .slice none 0 0, [], Nat.zero_le _, rfl, fun j hj => by omega, by simp [matS], by simp [matS], (Var2.new w _ _ _).alloc _, by have h := Var2.new (w.alloc (.cells #[.int .i64 0, .slice none 0 0] 108)) (.int .i64 0) (.slice none 0 0) 108; rw [World.size_alloc] at h; exact h, by rw [List.take_zero]; exact SumP.nil _ _, (by repeat (first | exact Below.refl _ _ | assumption | refine Below.alloc ?_ (by first | exact Nat.le_refl _ | (simp only [World.size_alloc, World.size_setCell, World.size_drew]; omega) | omega) _ | refine Below.setCell ?_ (by first | exact Nat.le_refl _ | (simp only [World.size_alloc, World.size_setCell, World.size_drew]; omega) | omega) _ | refine Below.drew ?_))⟩
  case round =>
    obtain ⟨k, v, vl, hk, rfl, HAD, hm0, hm1, hR, hA, hp, hb⟩ := hrel
    have ⟨av, cv, ev⟩ := hp.form
    obtain ⟨LK, hLK⟩ : ∃ LK, LK = (xss.take k).length := ⟨_, rfl⟩
    rw [← hLK] at ev
    subst ev
    clear hLK
    have hbs := hb.size
    have ⟨⟨zR, cR, dR⟩, fR, gR⟩ := hR
    have ⟨⟨zA, cA, dA⟩, fA, gA⟩ := hA
    have HR := Lib.hid hR
    have HA := Lib.hid hA
    have HP := Lib.hid hp
    by_cases hlt : k < xss.length
    · obtain ⟨b, off, a', cap', rfl, hbl, hc, hr⟩ := (HX.out.below hb).row k hlt
      have k1 : (k : Int) < (xss.length : Int) := by omega
      have hrl := hr.len
      have hrt := row_tot (xss := xss) hlt
      have hrow : (rowL xss k).length ≤ 1048576 := by have := HS.out; omega
      have HRD := Lib.hid hr
      have HT : Hid (xss.take (k+1) = xss.take k ++ [rowL xss k]) := take_snocR hlt
      have HTL : Hid ((xss.take k).length = k) := by rw [Hid, List.length_take]; omega
      have HNR : Hid (∀ j, j < (rowL xss k).length → (∀ i, i < j → 0 ≤ nth (rowL xss k) i) → addB (totI (rowL xss k) j) (nth (rowL xss k) j) = false → adB xss = false) := fun j hj => ad_no_num hlt hj
      have HNM : Hid (addB (matS xss k) (totR (rowL xss k)) = false → adB xss = false) := ad_no_row hlt
      have HNZ : Hid (totR (rowL xss k) = 0 → adB xss = false) := fun h => by
        rw [← Bool.not_eq_true]; intro h2
        have := (adB_row h2 hlt).1; omega
      have HMN : Hid (matS xss (k+1) = matS xss k + totR (rowL xss k)) := rfl
      have HGD : Hid ((∀ j, j < (rowL xss k).length → 0 ≤ nth (rowL xss k) j) → 0 < totR (rowL xss k) → adTo xss (k+1)) := fun h1 h2 i hi => by
        by_cases e : i = k
        · rw [e]; exact ⟨h1, h2⟩
        · exact HAD.out i (by omega)
      obtain ⟨R, hR9⟩ : ∃ R, R = rowL xss k := ⟨_, rfl⟩
      rw [← hR9] at hc hrl hrow HRD HT HNR HNM HNZ HMN HGD
      obtain ⟨M, hM9⟩ : ∃ M, M = matS xss k := ⟨_, rfl⟩
      rw [← hM9] at hm0 hm1 HA cA HNM HMN
      clear hr hrt hR9 hM9 hR hA hp HAD
      obtain ⟨W1, hW1⟩ : ∃ x : World, x = wr := ⟨_, rfl⟩
      subst hW1
      go_wp2_with fail
      go_loopw [18] (fun i wr => ∃ (j : Nat) (u : Value), j ≤ R.length ∧ i = .int .i64 j ∧ Hid (∀ i, i < j → 0 ≤ nth R i) ∧ 0 ≤ totI R j ∧ totI R j ≤ 12 ∧ Var2 wr W1.heap.size (.int .i64 (totI R j)) u ∧ OwnI wr (W1.heap.size + 1) u (R.take j) ∧ Below W1.heap.size W1 wr) (fun i _ => R.length - (intOf i).toNat)
      case atStart => exact ⟨0, .slice none 0 0, Nat.zero_le _, rfl, fun j hj => by omega, by simp [totI], by simp [totI], Var2.new W1 _ _ _, by rw [List.take_zero]; exact OwnI.nil _ _, (by repeat (first | exact Below.refl _ _ | assumption | refine Below.alloc ?_ (by first | exact Nat.le_refl _ | (simp only [World.size_alloc, World.size_setCell, World.size_drew]; omega) | omega) _ | refine Below.setCell ?_ (by first | exact Nat.le_refl _ | (simp only [World.size_alloc, World.size_setCell, World.size_drew]; omega) | omega) _ | refine Below.drew ?_))⟩
      case round =>
        obtain ⟨j, u, hj, rfl, HNN, ht0, ht1, hQ, ho, hbq⟩ := hrel
        have hbqs := hbq.size
        have ⟨⟨zQ, cQ, dQ⟩, fQ, gQ⟩ := hQ
        have hR2 := HR.out.below hbq
        have hA2 := HA.out.below hbq
        have ⟨⟨zR2, cR2, dR2⟩, fR2, gR2⟩ := hR2
        have ⟨⟨zA2, cA2, dA2⟩, fA2, gA2⟩ := hA2
        have HR2 := Lib.hid hR2
        have HA2 := Lib.hid hA2
        clear hR2 hA2
        by_cases hlt2 : j < R.length
        · obtain ⟨b2, off2, rfl, hbl2, hc2⟩ := (HRD.out.below hbq).cell j hlt2
          have j1 : (j : Int) < (R.length : Int) := by omega
          have htk : R.take (j+1) = R.take j ++ [nth R j] := by
            rw [List.take_succ_eq_append_getElem hlt2, nth_get _ _ hlt2]
          have HTK := Lib.hid htk
          have hlj : (R.take j).length ≤ 1048576 := by rw [List.length_take]; omega
          have HTI : Hid (totI R (j+1) = totI R j + nth R j) := rfl
          have HNF := Lib.hid (HNR.out j hlt2 HNN.out)
          obtain ⟨Z, hZ⟩ : ∃ Z, Z = nth R j := ⟨_, rfl⟩
          have HZ := Lib.hid hZ
          rw [← hZ] at hc2 HTK HTI HNF
          obtain ⟨S, hS⟩ : ∃ S, S = totI R j := ⟨_, rfl⟩
          rw [← hS] at ht0 ht1 cQ hQ HTI HNF
          have HQ := Lib.hid hQ
          have HO := Lib.hid ho
          have hPut := iPut_any W1.heap.size S Z u (R.take j) wr HQ.out ⟨ht0, ht1⟩ HO.out hlj
          have HPUT := Lib.hid hPut
          clear htk hZ hS hQ ho hPut
          cases had : addB S Z
          · have H := HNF.out had
            have HF := Lib.hid had
            have HH := Lib.hid H
            clear had H
            go_wp2_with fail
            refine HPUT.out.mono ?_
            rintro e w5 ⟨rfl, v5, hv5, ho5, hb5⟩
            rw [HF.out]
            have b5 : Below W1.heap.size W1 w5 := hbq.trans hb5
            have hR5 := HR.out.below b5
            have hA5 := HA.out.below b5
            have ⟨⟨zR5, cR5, dR5⟩, fR5, gR5⟩ := hR5
            have ⟨⟨zA5, cA5, dA5⟩, fA5, gA5⟩ := hA5
            have bw5 := hb.trans (b5.mono hbs)
            clear hv5 ho5 hb5
            go_wp2_with fail
            have hR7 := hR5.set (.int .i64 M) (.slice av LK cv)
            have b7 := (bw5.setCell (p := ⟨w.heap.size, 0, none⟩) (Nat.le_refl _) (.int .i64 M)).setCell (p := ⟨w.heap.size, 1, none⟩) (Nat.le_refl _) (.slice av LK cv)
            refine bodyPost_ret (v := .tuple #[.agg #[.int .i64 M, .slice av LK cv], .bool false]) (by have ⟨⟨_, q1, q2⟩, _, _⟩ := hR7; simp [results, Tryz.results107, go_sem, q1, q2]) rfl ?_
            exact ⟨M, av, LK, cv, by rw [HH.out], (by intro h; rw [HH.out] at h; cases h), b7⟩
          · have hge := addB_iff.1 had
            have HF := Lib.hid had
            have HV := Lib.hid (add_ok had)
            clear had HNF
            go_wp2_with fail
            refine HPUT.out.mono ?_
            rintro e w5 ⟨rfl, v5, hv5, ho5, hb5⟩
            rw [HF.out]
            rw [HV.out] at hv5
            have b5 : Below W1.heap.size W1 w5 := hbq.trans hb5
            go_wp2_with fail
            go_roundw
            case rel =>
              refine ⟨j + 1, v5, by omega, by go_num, fun i hi => ?_, by rw [HTI.out]; omega, by rw [HTI.out]; omega, by rw [HTI.out]; exact hv5, by rw [HTK.out]; exact ho5, b5⟩
              by_cases e : i = j
              · rw [e, ← HZ.out]; omega
              · exact HNN.out i (by omega)
            case measure => simp [intOf]; omega
        · obtain rfl : j = R.length := by omega
          have HTR : Hid (totI R R.length = totR R) := rfl
          rw [HTR.out] at ht0 ht1 cQ hQ
          rw [List.take_length] at ho
          obtain ⟨au, cu, rfl⟩ := ho.form
          have HO := Lib.hid ho
          have HP2 := Lib.hid (HP.out.below hbq (Nat.le_refl _))
          obtain ⟨S, hS⟩ : ∃ S, S = totR R := ⟨_, rfl⟩
          have HSS := Lib.hid hS
          rw [← hS] at ht0 ht1 cQ hQ HNM HNZ HMN HGD
          have HQ := Lib.hid hQ
          have hlk : (xss.take k).length ≤ 1048576 := by rw [HTL.out]; have := HS.out; omega
          have bwq := hb.trans (hbq.mono hbs)
          clear hS hQ ho
          by_cases hz : S = 0
          · have hzz : (S == 0) = true := by simp [hz]
            have HH := Lib.hid (HNZ.out hz)
            clear hz
            go_wp2_with fail
            have hR7 := HR2.out.set (.int .i64 M) (.slice av LK cv)
            have b7 := (bwq.setCell (p := ⟨w.heap.size, 0, none⟩) (Nat.le_refl _) (.int .i64 M)).setCell (p := ⟨w.heap.size, 1, none⟩) (Nat.le_refl _) (.slice av LK cv)
            refine bodyPost_ret (v := .tuple #[.agg #[.int .i64 M, .slice av LK cv], .bool false]) (by have ⟨⟨_, q1, q2⟩, _, _⟩ := hR7; simp [results, Tryz.results107, go_sem, q1, q2]) rfl ?_
            exact ⟨M, av, LK, cv, by rw [HH.out], (by intro h; rw [HH.out] at h; cases h), b7⟩
          · have hzz : (S == 0) = false := by simp [hz]
            have hPut := iPutS_any (w.heap.size + 1) M S (.slice av LK cv) vl (xss.take k) R au cu (w.heap.size + 2) (W1.heap.size + 1) wr HA2.out ⟨hm0, hm1⟩ HP2.out HO.out (by omega) (by omega) (by omega) (fun c e => by have := HP.out.blk.1 c e; omega) (fun i hi c e => by have := HP.out.blk.2 i hi c e; omega) hlk
            rw [← HSS.out] at hPut
            have HPUT := Lib.hid hPut
            clear hPut
            cases had : addB M S
            · have HF := Lib.hid had
              have HH := Lib.hid (HNM.out had)
              clear had hz
              go_wp2_with fail
              refine HPUT.out.mono ?_
              rintro e w5 ⟨rfl, v5, hv5, ho5, hb5⟩
              rw [HF.out]
              have ⟨⟨zA5, cA5, dA5⟩, fA5, gA5⟩ := hv5
              have hR5 : Var2 w5 w.heap.size (.int .i64 0) (.slice none 0 0) := ⟨⟨by have := hb5.size; omega, (hb5.cell (p := ⟨w.heap.size, 0, none⟩) (show w.heap.size < w.heap.size + 1 by omega)).trans cR2, (hb5.cell (p := ⟨w.heap.size, 1, none⟩) (show w.heap.size < w.heap.size + 1 by omega)).trans dR2⟩, (hb5.frozen (p := ⟨w.heap.size, 0, none⟩) (show w.heap.size < w.heap.size + 1 by omega)).trans fR2, (hb5.frozen (p := ⟨w.heap.size, 1, none⟩) (show w.heap.size < w.heap.size + 1 by omega)).trans gR2⟩
              have ⟨⟨zR5, cR5, dR5⟩, fR5, gR5⟩ := hR5
              have bw5 := bwq.trans (hb5.mono (by omega : w.heap.size ≤ w.heap.size + 1))
              obtain ⟨D, hD⟩ : ∃ D, D = addV M S := ⟨_, rfl⟩
              rw [← hD] at cA5
              obtain ⟨a5, c5, e5⟩ := ho5.form
              obtain ⟨L5, hL5⟩ : ∃ L5, L5 = (xss.take k ++ [R]).length := ⟨_, rfl⟩
              rw [← hL5] at e5
              rw [e5] at dA5
              clear hL5 e5
              clear hv5 ho5 hb5 hD
              go_wp2_with fail
              have hR7 := hR5.set (.int .i64 D) (.slice a5 L5 c5)
              have b7 := (bw5.setCell (p := ⟨w.heap.size, 0, none⟩) (Nat.le_refl _) (.int .i64 D)).setCell (p := ⟨w.heap.size, 1, none⟩) (Nat.le_refl _) (.slice a5 L5 c5)
              refine bodyPost_ret (v := .tuple #[.agg #[.int .i64 D, .slice a5 L5 c5], .bool false]) (by have ⟨⟨_, q1, q2⟩, _, _⟩ := hR7; simp [results, Tryz.results107, go_sem, q1, q2]) rfl ?_
              exact ⟨D, a5, L5, c5, by rw [HH.out], (by intro h; rw [HH.out] at h; cases h), b7⟩
            · have hge := addB_iff.1 had
              have HF := Lib.hid had
              have HV := Lib.hid (add_ok had)
              clear had
              go_wp2_with fail
              refine HPUT.out.mono ?_
              rintro e w5 ⟨rfl, v5, hv5, ho5, hb5⟩
              rw [HF.out]
              rw [HV.out] at hv5
              have hR5 : Var2 w5 w.heap.size (.int .i64 0) (.slice none 0 0) := ⟨⟨by have := hb5.size; omega, (hb5.cell (p := ⟨w.heap.size, 0, none⟩) (show w.heap.size < w.heap.size + 1 by omega)).trans cR2, (hb5.cell (p := ⟨w.heap.size, 1, none⟩) (show w.heap.size < w.heap.size + 1 by omega)).trans dR2⟩, (hb5.frozen (p := ⟨w.heap.size, 0, none⟩) (show w.heap.size < w.heap.size + 1 by omega)).trans fR2, (hb5.frozen (p := ⟨w.heap.size, 1, none⟩) (show w.heap.size < w.heap.size + 1 by omega)).trans gR2⟩
              have bw5 := bwq.trans (hb5.mono (by omega : w.heap.size ≤ w.heap.size + 1))
              have HG2 := Lib.hid (HGD.out HNN.out (by omega))
              go_wp2_with fail
              go_roundw
              case rel => exact ⟨k + 1, v5, _, by omega, by go_num, HG2.out, by rw [HMN.out]; omega, by rw [HMN.out]; omega, hR5, by rw [HMN.out]; exact hv5, by rw [HT.out]; exact ho5, bw5⟩
              case measure => simp [intOf]; omega
    · obtain rfl : k = xss.length := by omega
      have HH : Hid (adB xss = true) := adB_iff.2 ⟨HAD.out, hm1⟩
      obtain ⟨M, hM9⟩ : ∃ M, M = matS xss xss.length := ⟨_, rfl⟩
      have HM := Lib.hid hM9
      rw [← hM9] at hm0 hm1 HA cA
      clear hM9 hR hA hp
      go_wp2_with fail
      have hR7 := HR.out.set (.int .i64 M) (.slice av LK cv)
      have b7 := (hb.setCell (p := ⟨w.heap.size, 0, none⟩) (Nat.le_refl _) (.int .i64 M)).setCell (p := ⟨w.heap.size, 1, none⟩) (Nat.le_refl _) (.slice av LK cv)
      refine bodyPost_ret (v := .tuple #[.agg #[.int .i64 M, .slice av LK cv], .bool true]) (by have ⟨⟨_, q1, q2⟩, _, _⟩ := hR7; simp [results, Tryz.results107, go_sem, q1, q2]) rfl ?_
      refine ⟨M, av, LK, cv, by rw [HH.out], fun _ => ⟨HM.out, vl, ?_⟩, b7⟩
      have h := HP.out
      rw [List.take_length] at h
      have hset : ∀ (p : Addr) (u : Value) (w9 : World), p.block = w.heap.size → SumP w9 (w.heap.size + 2) (.slice av LK cv) vl xss → SumP (w9.setCell p u) (w.heap.size + 2) (.slice av LK cv) vl xss := fun p u w9 e h =>
        ⟨ownsRow_setCell_below h.own (by rw [e]; omega) u, h.vlen, fun k hk => (h.row k hk).setBelow (by rw [e]; omega) u, h.apart, h.pair⟩
      exact (hset _ _ _ rfl (hset _ _ _ rfl h)).mono (by omega)

set_option maxRecDepth 100000 in
theorem isUpper_any (a : Option Addr) (xss : List (List Int)) (cap : Nat) (w : World) (hx : RdC w a xss) :
    Calls Tryz.prog 108 #[.agg #[.slice a xss.length cap]] w fun e w' => e = .returned (.bool (upB xss)) ∧ Below w.heap.size w w' := by
  have hlen := hx.rd.len
  have HX := Lib.hid hx
  have b1 : Below w.heap.size w (w.alloc (.cells #[.slice a xss.length cap] 45)) := (by repeat (first | exact Below.refl _ _ | assumption | refine Below.alloc ?_ (by first | exact Nat.le_refl _ | (simp only [World.size_alloc, World.size_setCell, World.size_drew]; omega) | omega) _ | refine Below.setCell ?_ (by first | exact Nat.le_refl _ | (simp only [World.size_alloc, World.size_setCell, World.size_drew]; omega) | omega) _ | refine Below.drew ?_))
  clear hx
  go_enter Tryz.func108, Tryz.ntmps108
  go_wp2_with fail
  go_loop [10] (fun i => ∃ k : Nat, k ≤ xss.length ∧ i = .int .i64 k ∧ Hid (∀ j, j < k → (rowL xss j).length = xss.length ∧ ∀ q, q < j → atM xss j q = 0)) (fun i => xss.length - (intOf i).toNat)
  case atStart => exact ⟨0, Nat.zero_le _, rfl, fun j hj => by omega⟩
  case round =>
    obtain ⟨k, hk, rfl, HA⟩ := hrel
    by_cases hlt : k < xss.length
    · obtain ⟨b, off, a', cap', rfl, hbl, hc, hr, hcp⟩ := (HX.out.below b1).row hlt
      have k1 : (k : Int) < (xss.length : Int) := by omega
      by_cases hq : (rowL xss k).length = xss.length
      · have hqq : (((rowL xss k).length : Int) != (xss.length : Int)) = false := by simp [hq]
        have HQ := Lib.hid hq
        obtain ⟨b2, off2, rfl, hbl2, hc2⟩ := hr.cell 0 (by omega)
        have HR := Lib.hid hr
        have k2 : k ≤ cap' := by omega
        have k3 : k ≤ (rowL xss k).length := by omega
        have hrl := hr.len
        clear hq hr hc2
        go_wp2_with fail
        go_loop [25] (fun i => ∃ q : Nat, q ≤ k ∧ i = .int .i64 q ∧ Hid (∀ j, j < q → atM xss k j = 0)) (fun i => k - (intOf i).toNat)
        case atStart => exact ⟨0, Nat.zero_le _, rfl, fun j hj => by omega⟩
        case round =>
          obtain ⟨q, hq2, rfl, HU⟩ := hrel
          by_cases hlt2 : q < k
          · obtain ⟨b3, off3, e3, hbl3, hc3⟩ := HR.out.cell q (by omega)
            simp only [Option.some.injEq, Addr.mk.injEq, and_true] at e3
            obtain ⟨rfl, rfl⟩ := e3
            have q1 : (q : Int) < (k : Int) := by omega
            by_cases hz : nth (rowL xss k) q = 0
            · have hzz : (nth (rowL xss k) q != 0) = false := by simp [hz]
              have HZ : Hid (atM xss k q = 0) := hz
              clear hz
              go_wp2_with fail
              go_round
              case rel =>
                refine ⟨q + 1, by omega, by go_num, fun j hj => ?_⟩
                by_cases e : j = q
                · rw [e]; exact HZ.out
                · exact HU.out j (by omega)
              case measure => simp [intOf]; omega
            · have hzz : (nth (rowL xss k) q != 0) = true := by simp [hz]
              have H : Hid (upB xss = false) := by
                rw [Hid, ← Bool.not_eq_true, upB_iff]
                intro h
                exact hz ((h k hlt).2 q hlt2)
              clear hz
              go_wp2_with fail
              go_ret
              exact ⟨ret_bool H.out.symm, (by repeat (first | exact Below.refl _ _ | assumption | refine Below.alloc ?_ (by first | exact Nat.le_refl _ | (simp only [World.size_alloc, World.size_setCell, World.size_drew]; omega) | omega) _ | refine Below.setCell ?_ (by first | exact Nat.le_refl _ | (simp only [World.size_alloc, World.size_setCell, World.size_drew]; omega) | omega) _ | refine Below.drew ?_))⟩
          · obtain rfl : q = k := by omega
            go_wp2_with fail
            go_round
            case rel =>
              refine ⟨q + 1, by omega, by go_num, fun j hj => ?_⟩
              by_cases e : j = q
              · rw [e]; exact ⟨HQ.out, HU.out⟩
              · exact HA.out j (by omega)
            case measure => simp [intOf]; omega
      · have hqq : (((rowL xss k).length : Int) != (xss.length : Int)) = true := by simp; omega
        have H : Hid (upB xss = false) := by
          rw [Hid, ← Bool.not_eq_true, upB_iff]
          intro h
          exact hq (h k hlt).1
        clear hq hr
        go_wp2_with fail
        go_ret
        exact ⟨ret_bool H.out.symm, (by repeat (first | exact Below.refl _ _ | assumption | refine Below.alloc ?_ (by first | exact Nat.le_refl _ | (simp only [World.size_alloc, World.size_setCell, World.size_drew]; omega) | omega) _ | refine Below.setCell ?_ (by first | exact Nat.le_refl _ | (simp only [World.size_alloc, World.size_setCell, World.size_drew]; omega) | omega) _ | refine Below.drew ?_))⟩
    · obtain rfl : k = xss.length := by omega
      have H : Hid (upB xss = true) := upB_iff.2 HA.out
      go_wp2_with fail
      go_ret
      exact ⟨ret_bool H.out.symm, (by repeat (first | exact Below.refl _ _ | assumption | refine Below.alloc ?_ (by first | exact Nat.le_refl _ | (simp only [World.size_alloc, World.size_setCell, World.size_drew]; omega) | omega) _ | refine Below.setCell ?_ (by first | exact Nat.le_refl _ | (simp only [World.size_alloc, World.size_setCell, World.size_drew]; omega) | omega) _ | refine Below.drew ?_))⟩

def colF (xss : List (List Int)) (k q : Nat) (a b : Nat) : Int := if b < k ∨ (b = k ∧ a < q) then atM xss b a else 0
theorem colF_end {xss : List (List Int)} {n : Nat} : sqM (colF xss n 0) n n = sqM (fun a b => atM xss b a) n n :=
  sqM_congr (fun a ha b hb => by rw [colF, if_pos (.inl hb)])
theorem colF_next {xss : List (List Int)} {n k : Nat} : sqM (colF xss k n) n n = sqM (colF xss (k+1) 0) n n :=
  sqM_congr (fun a ha b hb => by
    rw [colF, colF]
    by_cases h : b < k + 1
    · rw [if_pos (by omega), if_pos (.inl h)]
    · rw [if_neg (by omega), if_neg (by omega)])
theorem colF_zero {xss : List (List Int)} {n : Nat} : sqM (fun _ _ => 0) n n = sqM (colF xss 0 0) n n :=
  sqM_congr (fun a ha b hb => by rw [colF, if_neg (by omega)])
theorem colF_step {xss : List (List Int)} {n k q : Nat} (hk : k < n) (hq : q < n) : setM (sqM (colF xss k q) n n) q k (atM xss k q) = sqM (colF xss k (q+1)) n n := by
  rw [setM_sq hq hk]
  refine sqM_congr (fun a ha b hb => ?_)
  rw [colF, colF]
  by_cases h : a = q ∧ b = k
  · obtain ⟨rfl, rfl⟩ := h
    rw [if_pos ⟨rfl, rfl⟩, if_pos (.inr ⟨rfl, by omega⟩)]
  · rw [if_neg h]
    by_cases h2 : b < k ∨ (b = k ∧ a < q)
    · rw [if_pos h2, if_pos (by omega)]
    · rw [if_neg h2, if_neg (by omega)]
set_option maxRecDepth 100000 in
set_option maxHeartbeats 1000000 in
theorem columnsOf_any (a : Option Addr) (xss : List (List Int)) (cap : Nat) (w : World) (hx : RdS w a xss) (h12 : xss.length ≤ 12) (hl : ∀ k, k < xss.length → (rowL xss k).length = xss.length) :
    Calls Tryz.prog 109 #[.agg #[.slice a xss.length cap]] w fun e w' => ∃ g vl, e = .returned (.slice (some ⟨g, 0, none⟩) xss.length xss.length) ∧ RowsP w' w.heap.size (.slice (some ⟨g, 0, none⟩) xss.length xss.length) vl (colsL xss) ∧ Below w.heap.size w w' := by
  have hlen := hx.len
  have HX := Lib.hid hx
  have HL := Lib.hid hl
  clear hx hl
  go_enter Tryz.func109, Tryz.ntmps109
  go_wp2_with fail
  refine (zeroRows_any xss.length _ h12).mono ?_
  rintro e w1 ⟨g, vl0, rfl, hro0, hb0⟩
  have b1 : Below w.heap.size w w1 := Below.trans (by repeat (first | exact Below.refl _ _ | assumption | refine Below.alloc ?_ (by first | exact Nat.le_refl _ | (simp only [World.size_alloc, World.size_setCell, World.size_drew]; omega) | omega) _ | refine Below.setCell ?_ (by first | exact Nat.le_refl _ | (simp only [World.size_alloc, World.size_setCell, World.size_drew]; omega) | omega) _ | refine Below.drew ?_)) (hb0.mono (by first | (simp only [World.size_alloc, World.size_setCell, World.size_drew]; omega) | omega))
  have hro1 := hro0.mono (B' := w.heap.size) (by simp)
  rw [colF_zero (xss := xss)] at hro1
  have hc0 := (hb0.cell (p := ⟨w.heap.size, 0, none⟩) (by simp)).trans (show _ = some (Value.slice a xss.length cap) by simp)
  have hs1 := b1.size
  obtain ⟨N, hN⟩ : ∃ N, N = xss.length := ⟨_, rfl⟩
  have HN := Lib.hid hN
  rw [← hN] at hlen h12 hro1 hc0 ⊢
  have HRO := Lib.hid hro1
  clear hro0 hro1 hb0 hN
  go_wp2_with fail
  go_loopw [15] (fun i wr => ∃ (k : Nat) (vl : List Value), k ≤ N ∧ i = .int .i64 k ∧ RowsP wr w.heap.size (.slice (some ⟨g, 0, none⟩) N N) vl (sqM (colF xss k 0) N N) ∧ Below w.heap.size w wr) (fun i _ => N - (intOf i).toNat)
  case atStart => exact ⟨0, _, Nat.zero_le _, rfl, HRO.out, b1⟩
  case round =>
    obtain ⟨k, vl, hk, rfl, hro, hb⟩ := hrel
    have hbs := hb.size
    have HR := Lib.hid hro
    clear hro
    by_cases hlt : k < N
    · obtain ⟨b, off, a', cap', rfl, hbl, hc, hr⟩ := HX.out.row k (by rw [← HN.out]; exact hlt)
      have hrn := HL.out k (by rw [← HN.out]; exact hlt)
      rw [← HN.out] at hrn
      obtain ⟨b2, off2, rfl, hbl2, hc2⟩ := hr.cell 0 (by omega)
      rw [hrn] at hc
      have hc1 := (hb.cell (p := ⟨b, off + k, none⟩) hbl).trans hc
      have HRN := Lib.hid hrn
      have HRD := Lib.hid hr
      have hbl1 : b < wr.heap.size := by omega
      have k1 : (k : Int) < (N : Int) := by omega
      clear hrn hr hc2 hc
      go_wp2_with fail
      go_loopw [22] (fun i wq => ∃ (q : Nat) (vl : List Value), q ≤ N ∧ i = .int .i64 q ∧ RowsP wq w.heap.size (.slice (some ⟨g, 0, none⟩) N N) vl (sqM (colF xss k q) N N) ∧ Below w.heap.size w wq) (fun i _ => N - (intOf i).toNat)
      case atStart => exact ⟨0, _, Nat.zero_le _, rfl, HR.out, hb⟩
      case round =>
        obtain ⟨q, vl2, hq, rfl, hro2, hb2⟩ := hrel
        by_cases hlt2 : q < N
        · obtain ⟨b3, off3, e3, hbl3, hc3⟩ := (HRD.out.below hb2).cell q (by rw [HRN.out]; exact hlt2)
          simp only [Option.some.injEq, Addr.mk.injEq, and_true] at e3
          obtain ⟨rfl, rfl⟩ := e3
          obtain ⟨g4, e4, hg4, hg5, hc4, hf4⟩ := hro2.outer (k := q) (by rw [sqM_len]; exact hlt2)
          simp only [Option.some.injEq, Addr.mk.injEq, and_true] at e4
          subst e4
          obtain ⟨g6, c6, e6, hg6, hg7, hc6, hf6, hnew⟩ := hro2.num (i := q) (j := k) (by rw [sqM_len]; exact hlt2) (by rw [sqM_rlen hlt2]; exact hlt)
          have hn2 := hnew (atM xss k q)
          rw [colF_step hlt hlt2] at hn2
          rw [e6, sqM_rlen hlt2] at hc4
          have HN2 := Lib.hid hn2
          have q1 : (q : Int) < (N : Int) := by omega
          have hat : nth (rowL xss k) q = atM xss k q := rfl
          rw [hat] at hc3
          have b7 := hb2.setCell (p := ⟨g6, k, none⟩) hg6 (.int .i64 (atM xss k q))
          clear hro2 hnew hn2 hat e6
          go_wp2_with fail
          go_roundw
          case rel => exact ⟨q + 1, vl2, by omega, by go_num, HN2.out, b7⟩
          case measure => simp [intOf]; omega
        · obtain rfl : q = N := by omega
          rw [colF_next] at hro2
          go_wp2_with fail
          go_roundw
          case rel => exact ⟨k + 1, _, by omega, by go_num, hro2, hb2⟩
          case measure => simp [intOf]; omega
    · obtain rfl : k = N := by omega
      have HR2 := HR.out
      rw [colF_end] at HR2
      have HE : Hid (colsL xss = sqM (fun a b => atM xss b a) k k) := by rw [Hid, colsL_sq, ← HN.out]
      have HR3 := Lib.hid HR2
      clear HR2
      go_wp2_with fail
      go_ret
      exact ⟨g, vl, by rw [← HN.out]; rfl, by rw [HE.out, ← HN.out]; exact HR3.out, hb⟩

theorem totS_sq {f : Nat → Nat → Int} {n m : Nat} : ∀ {k : Nat}, k ≤ n → totS (sqM f n m) k = k * m
  | 0, _ => by simp [totS]
  | k+1, h => by rw [totS, totS_sq (by omega), sqM_rlen (by omega), Nat.succ_mul]
theorem sq_small {f : Nat → Nat → Int} {n : Nat} (h : n ≤ 13) : (sqM f n n).length + totS (sqM f n n) (sqM f n n).length ≤ 1048576 := by
  rw [sqM_len, totS_sq (Nat.le_refl _)]
  have := Nat.mul_le_mul h h
  omega
set_option maxRecDepth 100000 in
set_option maxHeartbeats 1000000 in
theorem rowsOf_any (a : Option Addr) (xss : List (List Int)) (cap : Nat) (w : World) (hx : RdC w a xss) (hs : xss.length + totS xss xss.length ≤ 1048576) :
    Calls Tryz.prog 82 #[.agg #[.slice a xss.length cap]] w fun e w' => ∃ s va vn vc, e = .returned (.tuple #[.agg #[.int .i64 s, .slice va vn vc], .bool (mxB xss)]) ∧ (mxB xss = true → s = matS xss xss.length ∧ ∃ vl, SumP w' w.heap.size (.slice va vn vc) vl xss) ∧ Below w.heap.size w w' := by
  have hlen := hx.rd.len
  have HX := Lib.hid hx
  have HS := Lib.hid hs
  clear hx hs
  go_enter Tryz.func82, Tryz.ntmps82
  obtain ⟨W0, hW0⟩ : ∃ x : World, x = (w.alloc (.cells #[.slice a xss.length cap] 45)).alloc (.cells #[.int .i64 0, .slice none 0 0] 108) := ⟨_, rfl⟩
  have HW0 := Lib.hid hW0
  have b0 : Below w.heap.size w W0 := by rw [hW0]; exact (by repeat (first | exact Below.refl _ _ | assumption | refine Below.alloc ?_ (by first | exact Nat.le_refl _ | (simp only [World.size_alloc, World.size_setCell, World.size_drew]; omega) | omega) _ | refine Below.setCell ?_ (by first | exact Nat.le_refl _ | (simp only [World.size_alloc, World.size_setCell, World.size_drew]; omega) | omega) _ | refine Below.drew ?_))
  have c0 : W0.cell? ⟨w.heap.size, 0, none⟩ = some (.slice a xss.length cap) := by rw [hW0]; simp
  have hR0 : Var2 W0 (w.heap.size + 1) (.int .i64 0) (.slice none 0 0) := by
    have h := Var2.new (w.alloc (.cells #[.slice a xss.length cap] 45)) (.int .i64 0) (.slice none 0 0) 108
    rw [World.size_alloc] at h
    rw [hW0]; exact h
  have hz0 : w.heap.size + 2 = W0.heap.size := by rw [hW0]; simp
  have HCALL := Lib.hid (iAddUp_any a xss cap W0 (HX.out.below b0).rd HS.out)
  rw [hW0] at HCALL
  clear hW0
  go_wp2_with fail
  refine HCALL.out.mono ?_
  rintro e w1 ⟨s, va, vn, vc, rfl, hok, hb1⟩
  rw [← HW0.out] at hok hb1
  have b1 : Below w.heap.size w w1 := b0.trans (hb1.mono (by omega))
  have c1 := (hb1.cell (p := ⟨w.heap.size, 0, none⟩) (show w.heap.size < W0.heap.size by omega)).trans c0
  have hR1 := hR0.below hb1
  have hs1 := hb1.size
  clear hb1 b0 c0 hR0 HCALL HW0
  obtain ⟨W2, hW2⟩ : ∃ x : World, x = w1.alloc (.cells #[.int .i64 s, .slice va vn vc] 108) := ⟨_, rfl⟩
  have HW2 := Lib.hid hW2
  have bb2 : Below w1.heap.size w1 W2 := by rw [hW2]; exact (by repeat (first | exact Below.refl _ _ | assumption | refine Below.alloc ?_ (by first | exact Nat.le_refl _ | (simp only [World.size_alloc, World.size_setCell, World.size_drew]; omega) | omega) _ | refine Below.setCell ?_ (by first | exact Nat.le_refl _ | (simp only [World.size_alloc, World.size_setCell, World.size_drew]; omega) | omega) _ | refine Below.drew ?_))
  have b2 : Below w.heap.size w W2 := b1.trans (bb2.mono b1.size)
  have hA2 : Box2 W2 w1.heap.size (.int .i64 s) (.slice va vn vc) := by rw [hW2]; exact Box2.new _ _ _ _
  have hR2 := hR1.below bb2
  have c2 := (bb2.cell (p := ⟨w.heap.size, 0, none⟩) (show w.heap.size < w1.heap.size by omega)).trans c1
  have hs2 : w1.heap.size ≤ W2.heap.size := bb2.size
  clear hR1 c1
  subst hW2
  have ⟨zA2, cA2, dA2⟩ := hA2
  have ⟨⟨zR2, cR2, dR2⟩, fR2, gR2⟩ := hR2
  cases had : adB xss
  · have HF := Lib.hid had
    have HM : Hid (mxB xss = false) := by simp [Hid, mxB, had]
    clear had hok
    go_wp2_with fail
    have hR7 := hR2.set (.int .i64 s) (.slice va vn vc)
    have b7 := (b2.setCell (p := ⟨w.heap.size + 1, 0, none⟩) (by simp) (.int .i64 s)).setCell (p := ⟨w.heap.size + 1, 1, none⟩) (by simp) (.slice va vn vc)
    refine bodyPost_ret (v := .tuple #[.agg #[.int .i64 s, .slice va vn vc], .bool false]) (by have ⟨⟨_, q1, q2⟩, _, _⟩ := hR7; simp [results, Tryz.results82, go_sem, q1, q2]) rfl ?_
    exact ⟨s, va, vn, vc, by rw [HM.out], (by intro h; rw [HM.out] at h; cases h), b7⟩
  · have HF := Lib.hid had
    have HOK := Lib.hid (hok had)
    have h12 := adB_small had
    clear had hok
    have HUC := Lib.hid (isUpper_any a xss cap _ (HX.out.below b2))
    cases hup : upB xss
    · have HU := Lib.hid hup
      have HM : Hid (mxB xss = false) := by simp [Hid, mxB, hup]
      clear hup
      go_wp2_with fail
      refine HUC.out.mono ?_
      rintro e w3 ⟨rfl, hb3⟩
      rw [HU.out]
      have hA3 := hA2.below hb3
      have hR3 := hR2.below hb3
      have b3 := b2.trans (hb3.mono b2.size)
      have ⟨zA3, cA3, dA3⟩ := hA3
      have ⟨⟨zR3, cR3, dR3⟩, fR3, gR3⟩ := hR3
      clear hb3
      go_wp2_with fail
      have hR7 := hR3.set (.int .i64 s) (.slice va vn vc)
      have b7 := (b3.setCell (p := ⟨w.heap.size + 1, 0, none⟩) (by simp) (.int .i64 s)).setCell (p := ⟨w.heap.size + 1, 1, none⟩) (by simp) (.slice va vn vc)
      refine bodyPost_ret (v := .tuple #[.agg #[.int .i64 s, .slice va vn vc], .bool false]) (by have ⟨⟨_, q1, q2⟩, _, _⟩ := hR7; simp [results, Tryz.results82, go_sem, q1, q2]) rfl ?_
      exact ⟨s, va, vn, vc, by rw [HM.out], (by intro h; rw [HM.out] at h; cases h), b7⟩
    · have HU := Lib.hid hup
      have HL : Hid (∀ k, k < xss.length → (rowL xss k).length = xss.length) := fun k hk => (upB_iff.1 hup k hk).1
      have HM : Hid (mxB xss = adB (colsL xss)) := by rw [Hid, mxB, HF.out, hup]; rfl
      clear hup
      go_wp2_with fail
      refine HUC.out.mono ?_
      rintro e w3 ⟨rfl, hb3⟩
      rw [HU.out]
      have hA3 := hA2.below hb3
      have hR3 := hR2.below hb3
      have b3 := b2.trans (hb3.mono b2.size)
      have hs3 : w1.heap.size ≤ w3.heap.size := by have := hb3.size; simp at this; omega
      have c3 := (hb3.cell (p := ⟨w.heap.size, 0, none⟩) (by simp; omega)).trans c2
      have ⟨zA3, cA3, dA3⟩ := hA3
      have ⟨⟨zR3, cR3, dR3⟩, fR3, gR3⟩ := hR3
      have bb3 : Below w1.heap.size w1 w3 := bb2.trans (hb3.mono (by simp))
      clear hb3
      go_wp2_with fail
      refine (columnsOf_any a xss cap _ (HX.out.below b3).rd h12 HL.out).mono ?_
      rintro e w4 ⟨g, vlc, rfl, hro, hb4⟩
      have hA4 := hA3.below hb4
      have hR4 := hR3.below hb4
      have b4 := b3.trans (hb4.mono b3.size)
      have hs4 : w3.heap.size ≤ w4.heap.size := hb4.size
      have ⟨zA4, cA4, dA4⟩ := hA4
      have ⟨⟨zR4, cR4, dR4⟩, fR4, gR4⟩ := hR4
      have hAU := iAddUp_any (some ⟨g, 0, none⟩) (colsL xss) xss.length w4 hro.o.rd (by rw [colsL_sq]; exact sq_small (by omega))
      rw [← HM.out, colsL_len] at hAU
      have HAU := Lib.hid hAU
      have bb4 : Below w1.heap.size w1 w4 := bb3.trans (hb4.mono hs3)
      clear hb4 hro hAU
      go_wp2_with fail
      refine HAU.out.mono ?_
      rintro e w5 ⟨s5, va5, vn5, vc5, rfl, _, hb5⟩
      have hA5 := hA4.below hb5
      have hR5 := hR4.below hb5
      have b5 := b4.trans (hb5.mono b4.size)
      have bb5 : Below w1.heap.size w1 w5 := bb4.trans (hb5.mono (by omega))
      have ⟨zA5, cA5, dA5⟩ := hA5
      have ⟨⟨zR5, cR5, dR5⟩, fR5, gR5⟩ := hR5
      have hs5 : w4.heap.size ≤ w5.heap.size := hb5.size
      clear hb5
      go_wp2_with fail
      have hR7 := hR5.set (.int .i64 s) (.slice va vn vc)
      have b7 := (b5.setCell (p := ⟨w.heap.size + 1, 0, none⟩) (by simp) (.int .i64 s)).setCell (p := ⟨w.heap.size + 1, 1, none⟩) (by simp) (.slice va vn vc)
      refine bodyPost_ret (v := .tuple #[.agg #[.int .i64 s, .slice va vn vc], .bool (mxB xss)]) (by have ⟨⟨_, q1, q2⟩, _, _⟩ := hR7; simp [results, Tryz.results82, go_sem, q1, q2]) rfl ?_
      refine ⟨s, va, vn, vc, rfl, fun _ => ⟨HOK.out.1, ?_⟩, b7⟩
      obtain ⟨vl, hp⟩ := HOK.out.2
      have hp5 := hp.below bb5 (Nat.le_refl _)
      have hset : ∀ (p : Addr) (u : Value) (w9 : World), p.block = w.heap.size + 1 → SumP w9 W0.heap.size (.slice va vn vc) vl xss → SumP (w9.setCell p u) W0.heap.size (.slice va vn vc) vl xss := fun p u w9 e h =>
        ⟨ownsRow_setCell_below h.own (by rw [e]; omega) u, h.vlen, fun k hk => (h.row k hk).setBelow (by rw [e]; omega) u, h.apart, h.pair⟩
      exact ⟨vl, (hset _ _ _ rfl (hset _ _ _ rfl hp5)).mono (by omega)⟩

theorem iIsMatrix_any (a : Option Addr) (xss : List (List Int)) (cap : Nat) (w : World) (hx : RdC w a xss) (hs : xss.length + totS xss xss.length ≤ 1048576) :
    Calls Tryz.prog 49 #[.agg #[.slice a xss.length cap]] w fun e w' => e = .returned (.bool (mxB xss)) ∧ Below w.heap.size w w' := by
  have hlen := hx.rd.len
  go_enter Tryz.func49, Tryz.ntmps49
  go_wp2_with fail
  refine (rowsOf_any _ _ _ _ (hx.below (by repeat (first | exact Below.refl _ _ | assumption | refine Below.alloc ?_ (by first | exact Nat.le_refl _ | (simp only [World.size_alloc, World.size_setCell, World.size_drew]; omega) | omega) _ | refine Below.setCell ?_ (by first | exact Nat.le_refl _ | (simp only [World.size_alloc, World.size_setCell, World.size_drew]; omega) | omega) _ | refine Below.drew ?_))) hs).mono ?_
  rintro e w1 ⟨s, va, vn, vc, rfl, _, hb⟩
  have b1 : Below w.heap.size w w1 := Below.trans (by repeat (first | exact Below.refl _ _ | assumption | refine Below.alloc ?_ (by first | exact Nat.le_refl _ | (simp only [World.size_alloc, World.size_setCell, World.size_drew]; omega) | omega) _ | refine Below.setCell ?_ (by first | exact Nat.le_refl _ | (simp only [World.size_alloc, World.size_setCell, World.size_drew]; omega) | omega) _ | refine Below.drew ?_)) (hb.mono (by first | (simp only [World.size_alloc, World.size_setCell, World.size_drew]; omega) | omega))
  clear hb
  go_wp2_with fail
  go_ret
  exact ⟨rfl, b1.alloc b1.size _⟩

set_option maxRecDepth 100000 in
theorem iTopMx_any (a : Option Addr) (xss : List (List Int)) (cap : Nat) (w : World) (hx : RdC w a xss) (hs : xss.length + totS xss xss.length ≤ 1048576) :
    Calls Tryz.prog 87 #[.agg #[.slice a xss.length cap]] w fun e w' => e = .returned (.tuple #[.int .i64 (topV xss), .bool (topB xss)]) ∧ Below w.heap.size w w' := by
  have hlen := hx.rd.len
  have HX := Lib.hid hx
  have HCL := Lib.hid (fun W (h : RdC W a xss) => iIsMatrix_any a xss cap W h hs)
  cases hm : mxB xss
  · have HM := Lib.hid hm
    have H2 : Hid (topB xss = false) := by simp [Hid, topB, hm]
    have H1 : Hid (topV xss = 0) := by rw [Hid, topV, H2.out]; rfl
    clear hm
    go_enter Tryz.func87, Tryz.ntmps87
    go_wp2_with fail
    refine (HCL.out _ (hx.below (by repeat (first | exact Below.refl _ _ | assumption | refine Below.alloc ?_ (by first | exact Nat.le_refl _ | (simp only [World.size_alloc, World.size_setCell, World.size_drew]; omega) | omega) _ | refine Below.setCell ?_ (by first | exact Nat.le_refl _ | (simp only [World.size_alloc, World.size_setCell, World.size_drew]; omega) | omega) _ | refine Below.drew ?_)))).mono ?_
    rintro e w1 ⟨rfl, hb⟩
    rw [HM.out]
    have b1 : Below w.heap.size w w1 := Below.trans (by repeat (first | exact Below.refl _ _ | assumption | refine Below.alloc ?_ (by first | exact Nat.le_refl _ | (simp only [World.size_alloc, World.size_setCell, World.size_drew]; omega) | omega) _ | refine Below.setCell ?_ (by first | exact Nat.le_refl _ | (simp only [World.size_alloc, World.size_setCell, World.size_drew]; omega) | omega) _ | refine Below.drew ?_)) (hb.mono (by first | (simp only [World.size_alloc, World.size_setCell, World.size_drew]; omega) | omega))
    clear hb
    go_wp2_with fail
    go_ret2
    exact ⟨ret_ib' H1.out.symm H2.out.symm, b1⟩
  · have HM := Lib.hid hm
    have h12 := mxB_small hm
    clear hm
    by_cases h0 : xss.length = 0
    · have h00 : ((xss.length : Int) == 0) = true := by simp [h0]
      have H2 : Hid (topB xss = false) := by simp [Hid, topB, h0]
      have H1 : Hid (topV xss = 0) := by rw [Hid, topV, H2.out]; rfl
      clear h0
      go_enter Tryz.func87, Tryz.ntmps87
      go_wp2_with fail
      refine (HCL.out _ (hx.below (by repeat (first | exact Below.refl _ _ | assumption | refine Below.alloc ?_ (by first | exact Nat.le_refl _ | (simp only [World.size_alloc, World.size_setCell, World.size_drew]; omega) | omega) _ | refine Below.setCell ?_ (by first | exact Nat.le_refl _ | (simp only [World.size_alloc, World.size_setCell, World.size_drew]; omega) | omega) _ | refine Below.drew ?_)))).mono ?_
      rintro e w1 ⟨rfl, hb⟩
      rw [HM.out]
      have b1 : Below w.heap.size w w1 := Below.trans (by repeat (first | exact Below.refl _ _ | assumption | refine Below.alloc ?_ (by first | exact Nat.le_refl _ | (simp only [World.size_alloc, World.size_setCell, World.size_drew]; omega) | omega) _ | refine Below.setCell ?_ (by first | exact Nat.le_refl _ | (simp only [World.size_alloc, World.size_setCell, World.size_drew]; omega) | omega) _ | refine Below.drew ?_)) (hb.mono (by first | (simp only [World.size_alloc, World.size_setCell, World.size_drew]; omega) | omega))
      have hc0 := (hb.cell (p := ⟨w.heap.size, 0, none⟩) (by simp)).trans (show _ = some (Value.slice a xss.length cap) by simp)
      clear hb
      go_wp2_with fail
      go_ret2
      exact ⟨ret_ib' H1.out.symm H2.out.symm, b1⟩
    · have h00 : ((xss.length : Int) == 0) = false := by simp only [beq_eq_false_iff_ne, ne_eq]; omega
      have H2 : Hid (topB xss = true) := by simp only [Hid, topB, HM.out, Bool.true_and, decide_eq_true_eq]; exact h0
      have H1 : Hid (topV xss = ((topN xss : Nat) : Int)) := by rw [Hid, topV, H2.out]; rfl
      have hpos : 1 ≤ xss.length := by omega
      have htl := topN_lt HM.out (by omega)
      have HZ : Hid (∀ j, j < topN xss → atM xss j (xss.length - 1) = 0) := fun j hj => topN_zero hj
      have HNE := Lib.hid (topN_ne HM.out (by omega))
      obtain ⟨T, hT⟩ : ∃ T, T = topN xss := ⟨_, rfl⟩
      rw [← hT] at H1 htl HZ HNE
      clear h0 hT
      go_enter Tryz.func87, Tryz.ntmps87
      go_wp2_with fail
      refine (HCL.out _ (hx.below (by repeat (first | exact Below.refl _ _ | assumption | refine Below.alloc ?_ (by first | exact Nat.le_refl _ | (simp only [World.size_alloc, World.size_setCell, World.size_drew]; omega) | omega) _ | refine Below.setCell ?_ (by first | exact Nat.le_refl _ | (simp only [World.size_alloc, World.size_setCell, World.size_drew]; omega) | omega) _ | refine Below.drew ?_)))).mono ?_
      rintro e w1 ⟨rfl, hb⟩
      rw [HM.out]
      have b1 : Below w.heap.size w w1 := Below.trans (by repeat (first | exact Below.refl _ _ | assumption | refine Below.alloc ?_ (by first | exact Nat.le_refl _ | (simp only [World.size_alloc, World.size_setCell, World.size_drew]; omega) | omega) _ | refine Below.setCell ?_ (by first | exact Nat.le_refl _ | (simp only [World.size_alloc, World.size_setCell, World.size_drew]; omega) | omega) _ | refine Below.drew ?_)) (hb.mono (by first | (simp only [World.size_alloc, World.size_setCell, World.size_drew]; omega) | omega))
      have hc0 := (hb.cell (p := ⟨w.heap.size, 0, none⟩) (by simp)).trans (show _ = some (Value.slice a xss.length cap) by simp)
      have hcast : ((xss.length : Int) - 1) = ((xss.length - 1 : Nat) : Int) := by omega
      have hrow : ∀ (k : Nat) (W : World), k < xss.length → Below w.heap.size w W → ∃ b off b2 off2 cap', a = some ⟨b, off, none⟩ ∧ W.cell? ⟨b, off + k, none⟩ = some (.slice (some ⟨b2, off2, none⟩) xss.length cap') ∧ W.cell? ⟨b2, off2 + (xss.length - 1), none⟩ = some (.int .i64 (atM xss k (xss.length - 1))) ∧ b < W.heap.size ∧ b2 < W.heap.size := by
        intro k W hk hbW
        obtain ⟨b, off, a', cap', e1, hbl, hc, hr, _⟩ := (HX.out.below hbW).row hk
        have hl := mxB_len HM.out hk
        obtain ⟨b2, off2, e2, hbl2, hc2⟩ := hr.cell (xss.length - 1) (by omega)
        rw [hl, e2] at hc
        exact ⟨b, off, b2, off2, cap', e1, hc, hc2, hbl, hbl2⟩
      have HROW := Lib.hid hrow
      clear hb hx hrow
      go_wp2_with fail
      go_region
      all_goals
        have hdr : Below w.heap.size w (w1.drew) := b1.drew
        go_wp2_with fail
        go_loop [4] (fun i => ∃ k : Nat, k ≤ T ∧ i = .int .i64 k) (fun i => T + 1 - (intOf i).toNat)
        case atStart => exact ⟨0, Nat.zero_le _, rfl⟩
        case round =>
          obtain ⟨k, hk, rfl⟩ := hrel
          obtain ⟨b, off, b2, off2, cap', rfl, hc, hc2, hbl, hbl2⟩ := HROW.out k _ (by omega) hdr
          have k1 : (k : Int) < (xss.length : Int) := by omega
          by_cases hlt : k < T
          · have hz := HZ.out k hlt
            rw [hz] at hc2
            have hzz : ((0 : Int) == 0) = true := rfl
            clear hz
            go_wp2_with fail
            go_round
            case rel => exact ⟨k + 1, by omega, by go_num⟩
            case measure => simp [intOf]; omega
          · obtain rfl : k = T := by omega
            have hz := HNE.out
            obtain ⟨Z, hZ⟩ : ∃ Z, Z = atM xss k (xss.length - 1) := ⟨_, rfl⟩
            rw [← hZ] at hz hc2
            have hzz : (Z == 0) = false := by simp [hz]
            clear hz hZ
            go_wp2_with fail
            go_ret2
            exact ⟨ret_ib' H1.out.symm H2.out.symm, hdr⟩

theorem SumP.vn {w : World} {B n c : Nat} {a : Option Addr} {vl : List Value} {xss : List (List Int)} (h : SumP w B (.slice a n c) vl xss) : n = xss.length := by
  obtain ⟨a2, c2, e⟩ := h.form
  simp only [Value.slice.injEq] at e
  exact e.2.1

set_option maxRecDepth 100000 in
theorem numbersOf_any (s : Int) (va : Option Addr) (vc B : Nat) (vl : List Value) (xss : List (List Int)) (w : World) (hp : SumP w B (.slice va xss.length vc) vl xss) (hB : B ≤ w.heap.size) (h63 : xss.length ≤ 1048576) :
    Calls Tryz.prog 88 #[.agg #[.int .i64 s, .slice va xss.length vc]] w fun e w' => ∃ g, e = .returned (.slice (some ⟨g, 0, none⟩) xss.length xss.length) ∧ RowsP w' B (.slice (some ⟨g, 0, none⟩) xss.length xss.length) vl xss ∧ Below w.heap.size w w' := by
  obtain ⟨j0, hj0, hy0, hy1, hy2⟩ := info_parts infoRow0
  have HP := Lib.hid hp
  have hvl := hp.vlen
  clear hp
  obtain ⟨N, hN⟩ : ∃ N, N = xss.length := ⟨_, rfl⟩
  have HN := Lib.hid hN
  rw [← hN] at h63 hvl ⊢
  have HVL := Lib.hid hvl
  have HP2 : Hid (SumP w B (.slice va N vc) vl xss) := by rw [hN]; exact HP.out
  clear hN HP hvl
  go_enter Tryz.func88, Tryz.ntmps88
  go_wp2_with (
    at_make
    refine wpList_make_full _ rfl (.tmp 8) (.tmp 8) 43 rfl (w.heap.size + 1) 24 j0 (.slice none 0 0) 1 Tryz.underlying43 hj0 hy0 hy1 .i64 .i64 _ _ N rfl rfl rfl rfl (by rw [hy2]; omega) (by unfold maxLen; omega) (by simp) ?_
    intro w1 hown hgrow
    have bw1 : Below w.heap.size w w1 := Below.trans (B := w.heap.size) ((Below.refl _ _).alloc (Nat.le_refl _) _) (below_grown_none hgrow (by simp))
    have hc1 : w1.cell? ⟨w.heap.size, 1, none⟩ = some (.slice va N vc) := hgrow.cell (by simp) (by simp)
    have hz1' : w.heap.size + 1 < w1.heap.size := by
      have := (World.ownsRow.lt hown (w.heap.size + 1) (by simp [Value.ownBlock])).2
      omega)
  have HO0 : Hid (w1.ownsRow (w.heap.size + 1) 24 1 (.slice (some ⟨w.heap.size + 1, 0, none⟩) N N) N (nVal vl N 0)) := by
    rw [Hid, nVal_zero]
    simpa [Value.cells, toList_madeCells_one] using hown
  clear hown hgrow
  go_loopw [13] (fun i wr => ∃ k : Nat, k ≤ N ∧ i = .int .i64 k ∧ wr.ownsRow (w.heap.size + 1) 24 1 (.slice (some ⟨w.heap.size + 1, 0, none⟩) N N) N (nVal vl N k) ∧ Below w.heap.size w wr ∧ w.heap.size + 1 < wr.heap.size) (fun i _ => N - (intOf i).toNat)
  case atStart => exact ⟨0, Nat.zero_le _, rfl, HO0.out, bw1, hz1'⟩
  case round =>
    obtain ⟨k, hk, rfl, hown2, hb, hgz⟩ := hrel
    have hbs := hb.size
    by_cases hlt : k < N
    · have k1 : (k : Int) < (N : Int) := by omega
      have hpr := HP2.out.below hb (Nat.le_refl _)
      obtain ⟨g0, rfl, hg0, hcA, hcB⟩ := hpr.at (k := k) (by rw [← HN.out]; exact hlt)
      obtain ⟨ar, cr, er⟩ := (hpr.row k (by rw [← HN.out]; exact hlt)).form
      rw [er] at hcB
      obtain ⟨T, hT⟩ : ∃ T, T = totR (rowL xss k) := ⟨_, rfl⟩
      rw [← hT] at hcA
      have hst := (World.ownsRow.stored hown2 k (valAt vl k)).1
      rw [nVal_step hlt, er] at hst
      have hst := ownsRow_bel hst (w' := (wr.setCell ⟨w.heap.size + 1, k, none⟩ (.slice ar (rowL xss k).length cr)).alloc (.cells #[.int .i64 T, .slice ar (rowL xss k).length cr] 115)) ((Below.refl _ _).alloc (Nat.le_refl _) _) (Nat.le_refl _)
      have hcc := World.ownsRow.cellAt hown2 k (by omega)
      have hfr := World.ownsRow.frozenAt hown2 k
      have hcc' : ∃ u, wr.cell? ⟨w.heap.size + 1, k, none⟩ = some u := by
        rw [hcc]
        exact ⟨_, List.getElem?_eq_getElem (by rw [nVal_len]; omega)⟩
      obtain ⟨u, hu⟩ := hcc'
      have Hst := Lib.hid hst
      have b3 : Below w.heap.size w ((wr.setCell ⟨w.heap.size + 1, k, none⟩ (.slice ar (rowL xss k).length cr)).alloc (.cells #[.int .i64 T, .slice ar (rowL xss k).length cr] 115)) := (hb.setCell (by simp) _).alloc (by simpa using hbs) _
      clear hst hcc hown2 hpr er hT
      go_wp2_with fail
      go_roundw
      case rel => exact ⟨k + 1, by omega, by go_num, Hst.out, b3, by simp; omega⟩
      case measure => simp [intOf]; omega
    · obtain rfl : k = N := by omega
      rw [nVal_end HVL.out] at hown2
      have HO := Lib.hid hown2
      have hpr := Lib.hid (HP2.out.below hb (Nat.le_refl _))
      have HLT := Lib.hid HP2.out.blk
      clear hown2
      go_wp2_with fail
      go_ret
      refine ⟨w.heap.size + 1, rfl, ⟨⟨?_, hpr.out.row, fun i hi c hc h => ?_⟩, hpr.out.pair⟩, hb⟩
      · rw [← HN.out]
        refine ⟨HO.out.1, ?_⟩
        rcases HO.out.2 with hn | ⟨g, cap, cur, e, hb', rest⟩
        · exact .inl hn
        · exact .inr ⟨g, cap, cur, e, by omega, rest⟩
      · have := HLT.out.2 i hi c hc
        simp only [Value.ownBlock, Option.some.injEq] at h
        omega

set_option maxRecDepth 100000 in
set_option maxHeartbeats 1000000 in
theorem iShrink_any (a : Option Addr) (xss : List (List Int)) (cap : Nat) (w : World) (hx : RdC w a xss) (hs : xss.length + totS xss xss.length ≤ 1048576) :
    Calls Tryz.prog 54 #[.agg #[.slice a xss.length cap]] w fun e w' => ∃ a0 c0 vl, e = .returned (.tuple #[.agg #[.slice a0 (shL xss).length c0], .int .i64 (topV xss), .bool (topB xss)]) ∧ RowsP w' w.heap.size (.slice a0 (shL xss).length c0) vl (shL xss) ∧ Below w.heap.size w w' := by
  have hlen := hx.rd.len
  have hV := Var1.new (w.alloc (.cells #[.slice a xss.length cap] 45)) (.slice none 0 0) 45
  have hb0 : Below w.heap.size w ((w.alloc (.cells #[.slice a xss.length cap] 45)).alloc (.cells #[.slice none 0 0] 45)) := (by repeat (first | exact Below.refl _ _ | assumption | refine Below.alloc ?_ (by first | exact Nat.le_refl _ | (simp only [World.size_alloc, World.size_setCell, World.size_drew]; omega) | omega) _ | refine Below.setCell ?_ (by first | exact Nat.le_refl _ | (simp only [World.size_alloc, World.size_setCell, World.size_drew]; omega) | omega) _ | refine Below.drew ?_))
  rw [World.size_alloc] at hV
  have HCL := Lib.hid (fun W (h : RdC W a xss) => iTopMx_any a xss cap W h hs)
  cases hm : topB xss
  · have HM := Lib.hid hm
    have H1 : Hid (shL xss = []) := by simp [Hid, shL, hm]
    have H2 : Hid (topV xss = 0) := by rw [Hid, topV, hm]; rfl
    clear hm
    go_enter Tryz.func54, Tryz.ntmps54
    go_wp2_with fail
    refine (HCL.out _ (hx.below hb0)).mono ?_
    rintro e w1 ⟨rfl, hb⟩
    rw [HM.out, H2.out]
    have b1 : Below w.heap.size w w1 := hb0.trans (hb.mono (by simp; omega))
    have hV1 := hV.below hb
    have ⟨⟨zV, cV⟩, fV⟩ := hV1
    clear hb hV
    go_wp2_with fail
    have hV2 := hV1.set (.slice none 0 0)
    have b2 := b1.setCell (p := ⟨w.heap.size + 1, 0, none⟩) (by simp) (.slice none 0 0)
    refine bodyPost_ret (v := .tuple #[.agg #[.slice none 0 0], .int .i64 0, .bool false]) (by have ⟨⟨_, q1⟩, _⟩ := hV2; simp [results, Tryz.results54, go_sem, q1]) rfl ?_
    exact ⟨none, 0, [], by rw [H1.out, H2.out]; rfl, by rw [H1.out]; exact RowsP.nil _ _, b2⟩
  · have HM := Lib.hid hm
    have ⟨hmx, hpos⟩ := topB_mx hm
    have h12 := mxB_small hmx
    have HMX := Lib.hid hmx
    have htl := topN_lt hmx hpos
    have H2 : Hid (topV xss = ((topN xss : Nat) : Int)) := by rw [Hid, topV, hm]; rfl
    have HE := Lib.hid (mx_eta hmx)
    have HNB := Lib.hid (mxB_num hmx htl (j := xss.length - 1) (by omega))
    have HSH : Hid (shL xss = if totR (rowL xss (topN xss)) = 1 then sqM (shF (decF (atM xss) xss.length (topN xss)) xss.length (topN xss)) (xss.length - 1) (xss.length - 1) else sqM (decF (atM xss) xss.length (topN xss)) xss.length xss.length) := by rw [Hid, shL, if_pos hm, shF_dec]
    have HRC := Lib.hid (fun W (h : RdC W a xss) => rowsOf_any a xss cap W h hs)
    obtain ⟨T, hT⟩ : ∃ T, T = topN xss := ⟨_, rfl⟩
    have HT := Lib.hid hT
    rw [← hT] at htl H2 HSH HNB
    have HX := Lib.hid hx
    clear hm hmx hx hT hs
    go_enter Tryz.func54, Tryz.ntmps54
    go_wp2_with fail
    refine (HCL.out _ (HX.out.below hb0)).mono ?_
    rintro e w1 ⟨rfl, hb⟩
    rw [HM.out, H2.out]
    have b1 : Below w.heap.size w w1 := hb0.trans (hb.mono (by simp; omega))
    have hV1 := hV.below hb
    have hc1 := (hb.cell (p := ⟨w.heap.size, 0, none⟩) (by simp; omega)).trans (show _ = some (Value.slice a xss.length cap) by simp)
    have hz1 : w.heap.size + 2 ≤ w1.heap.size := by have := hb.size; simp at this; omega
    clear hb hV hb0 HCL
    go_wp2_with fail
    refine (HRC.out _ (HX.out.below b1)).mono ?_
    rintro e w2 ⟨s, va, vn, vc, rfl, hok, hb2⟩
    rw [HMX.out]
    obtain ⟨vl, hp⟩ := (hok HMX.out).2
    obtain rfl := hp.vn
    have b2 := b1.trans (hb2.mono b1.size)
    have hV2 := (hV1.below hb2).alloc (.cells #[.int .i64 s, .slice va xss.length vc] 108)
    have b2' := b2.alloc b2.size (.cells #[.int .i64 s, .slice va xss.length vc] 108)
    have hP2 := Box2.new w2 (.int .i64 s) (.slice va xss.length vc) 108
    have hz2 : w.heap.size + 2 ≤ w2.heap.size := by have := hb2.size; omega
    have hp2 := hp.below ((Below.refl _ _).alloc (Nat.le_refl _) (.cells #[.int .i64 s, .slice va xss.length vc] 108)) (Nat.le_refl _)
    have HNUM := Lib.hid (numbersOf_any s va vc _ vl xss (w2.alloc (.cells #[.int .i64 s, .slice va xss.length vc] 108)) hp2 (by simp; have := hb2.size; omega) (by omega))
    have HP2 := Lib.hid hp2
    have HV2 := Lib.hid hV2
    have ⟨zP2, cP2, dP2⟩ := hP2
    have HPB := Lib.hid hp.blk
    clear hb2 hok hp hV1 HRC b2 hp2 hV2 hc1
    go_wp2_with fail
    refine HNUM.out.mono ?_
    rintro e w3 ⟨g, rfl, hro, hb3⟩
    have b3 := b2'.trans (hb3.mono b2'.size)
    have hP3 := hP2.below hb3
    have HV3 := Lib.hid (HV2.out.below hb3)
    have hp3 := HP2.out.below hb3 (Nat.le_refl _)
    obtain ⟨gp, rfl, hgp, hcs, _⟩ := hp3.at (k := T) htl
    have hvT := hp3.apart T htl
    have hro2 := hro.mono (B' := w.heap.size + 2) hz1
    obtain ⟨g6, c6, e6, hg6, hg7, hc6, hf6, hnew⟩ := hro2.num (i := T) (j := xss.length - 1) htl (by rw [mxB_len HMX.out htl]; omega)
    have hgne : gp ≠ g6 := fun h => hvT g6 (by rw [e6]; rfl) (by rw [h]; rfl)
    obtain ⟨g4, e4, hg4, hg5, hc4, hf4⟩ := hro2.outer (k := T) htl
    simp only [Option.some.injEq, Addr.mk.injEq, and_true] at e4
    subst e4
    have hg7ne : g6 ≠ w2.heap.size := fun h => by
      have h1 := HPB.out.2 T htl g6 (by rw [e6]; rfl)
      omega
    rw [e6, mxB_len HMX.out htl] at hc4
    have hset := hnew (atM xss T (xss.length - 1) - 1)
    have hmat : setM xss T (xss.length - 1) (atM xss T (xss.length - 1) - 1) = sqM (decF (atM xss) xss.length T) xss.length xss.length := by
      have h := setM_sq (f := atM xss) (n := xss.length) (m := xss.length) (i := T) (j := xss.length - 1) (x := atM xss T (xss.length - 1) - 1) htl (by omega)
      rw [← HE.out] at h
      rw [h]
      exact sqM_congr (fun p hp q hq => by rw [decF])
    rw [hmat] at hset
    have b4 := b3.setCell (p := ⟨g6, xss.length - 1, none⟩) (show w.heap.size ≤ g6 by omega) (.int .i64 (atM xss T (xss.length - 1) - 1))
    have hV4 := HV3.out.other (p := ⟨g6, xss.length - 1, none⟩) (.int .i64 (atM xss T (xss.length - 1) - 1)) (show w.heap.size + 1 ≠ g6 by omega)
    have hP4 := hP3.set (p := ⟨g6, xss.length - 1, none⟩) (.int .i64 (atM xss T (xss.length - 1) - 1)) (show w2.heap.size ≠ g6 by omega)
    have ⟨zP3, cP3, dP3⟩ := hP3
    have ⟨hz0, hz9⟩ := HNB.out
    obtain ⟨Z, hZ⟩ : ∃ Z, Z = atM xss T (xss.length - 1) := ⟨_, rfl⟩
    rw [← hZ] at hc6 hset b4 hV4 hP4 hz0 hz9
    obtain ⟨S, hS⟩ : ∃ S, S = totR (rowL xss T) := ⟨_, rfl⟩
    rw [← hS] at hcs HSH
    obtain ⟨N, hN⟩ : ∃ N, N = xss.length := ⟨_, rfl⟩
    have HN := Lib.hid hN
    rw [← hN] at hlen h12 htl hpos hc6 hf6 hc4 hset b4 hV4 hP4 HSH dP3 ⊢
    have hcast : ((N : Int) - 1) = ((N - 1 : Nat) : Int) := by omega
    have hN1 : N - 1 < N := by omega
    have HS4 := Lib.hid hset
    have HV4 := Lib.hid hV4
    have ⟨zP4, cP4, dP4⟩ := hP4
    have hcs4 : (w3.setCell ⟨g6, N - 1, none⟩ (.int .i64 (Z - 1))).cell? ⟨gp, T * 2, none⟩ = some (.int .i64 S) := (World.cell?_setCell_other _ _ _ _ (by intro h9; exact hgne (congrArg Addr.block h9).symm)).trans hcs
    clear hro hro2 hnew hvT hp3 hP3 hb3 HNUM hP2 hset hV4 e6 hmat hZ hS hN cP2 dP2 hP4
    have hws : w.heap.size + 2 ≤ (w3.setCell ⟨g6, N - 1, none⟩ (.int .i64 (Z - 1))).heap.size := by have := b3.size; simp; omega
    by_cases hS1 : S = 1
    · have hSS : (S == 1) = true := by simp [hS1]
      rw [if_pos hS1] at HSH
      have HTK := Lib.hid (takeOut_any g N (w.heap.size + 2) N T vl (decF (atM xss) N T) _ HS4.out htl hws h12 (Nat.le_refl _) (by omega))
      clear hS1
      go_wp2_with fail
      refine HTK.out.mono ?_
      rintro e w5 ⟨ul, rfl, hro5, hb5⟩
      have b5 := b4.trans (hb5.mono (by omega : w.heap.size ≤ w.heap.size + 2))
      have hV5 : Var1 w5 (w.heap.size + 1) (.slice none 0 0) := ⟨⟨by have := hb5.size; omega, (hb5.cell (p := ⟨w.heap.size + 1, 0, none⟩) (show w.heap.size + 1 < w.heap.size + 2 by omega)).trans HV4.out.1.2⟩, (hb5.frozen (p := ⟨w.heap.size + 1, 0, none⟩) (show w.heap.size + 1 < w.heap.size + 2 by omega)).trans HV4.out.2⟩
      have ⟨⟨zV5, cV5⟩, fV5⟩ := hV5
      have HR5 := Lib.hid hro5
      have HV5 := Lib.hid hV5
      clear hro5 hb5 hV5 HTK
      go_wp2_with fail
      have hV6 := HV5.out.set (.slice (some ⟨g, 0, none⟩) (N - 1) N)
      have b6 := b5.setCell (p := ⟨w.heap.size + 1, 0, none⟩) (by simp) (.slice (some ⟨g, 0, none⟩) (N - 1) N)
      refine bodyPost_ret (v := .tuple #[.agg #[.slice (some ⟨g, 0, none⟩) (N - 1) N], .int .i64 (T : Int), .bool true]) (by have ⟨⟨_, q1⟩, _⟩ := hV6; simp [results, Tryz.results54, go_sem, q1]) rfl ?_
      exact ⟨some ⟨g, 0, none⟩, N, ul, by rw [HSH.out, H2.out, sqM_len], by rw [HSH.out, sqM_len]; exact (HR5.out.setBelow (show w.heap.size + 1 < w.heap.size + 2 by omega) _).mono (by omega), b6⟩
    · have hSS : (S == 1) = false := by simp [hS1]
      rw [if_neg hS1] at HSH
      have ⟨⟨zV5, cV5⟩, fV5⟩ := HV4.out
      clear hS1
      go_wp2_with fail
      have hV6 := HV4.out.set (.slice (some ⟨g, 0, none⟩) N N)
      have b6 := b4.setCell (p := ⟨w.heap.size + 1, 0, none⟩) (by simp) (.slice (some ⟨g, 0, none⟩) N N)
      refine bodyPost_ret (v := .tuple #[.agg #[.slice (some ⟨g, 0, none⟩) N N], .int .i64 (T : Int), .bool true]) (by have ⟨⟨_, q1⟩, _⟩ := hV6; simp [results, Tryz.results54, go_sem, q1]) rfl ?_
      exact ⟨some ⟨g, 0, none⟩, N, vl, by rw [HSH.out, H2.out, sqM_len], by rw [HSH.out, sqM_len]; exact (HS4.out.setBelow (show w.heap.size + 1 < w.heap.size + 2 by omega) _).mono (by omega), b6⟩

def smV (xss : List (List Int)) : Int := if mxB xss then matS xss xss.length else 0

theorem iSumMx_any (a : Option Addr) (xss : List (List Int)) (cap : Nat) (w : World) (hx : RdC w a xss) (hs : xss.length + totS xss xss.length ≤ 1048576) :
    Calls Tryz.prog 53 #[.agg #[.slice a xss.length cap]] w fun e w' => e = .returned (.tuple #[.int .i64 (smV xss), .bool (mxB xss)]) ∧ Below w.heap.size w w' := by
  have hlen := hx.rd.len
  have HCL := Lib.hid (fun W (h : RdC W a xss) => rowsOf_any a xss cap W h hs)
  cases hm : mxB xss
  · have HM := Lib.hid hm
    have H1 : Hid (smV xss = 0) := by simp [Hid, smV, hm]
    clear hm
    go_enter Tryz.func53, Tryz.ntmps53
    go_wp2_with fail
    refine (HCL.out _ (hx.below (by repeat (first | exact Below.refl _ _ | assumption | refine Below.alloc ?_ (by first | exact Nat.le_refl _ | (simp only [World.size_alloc, World.size_setCell, World.size_drew]; omega) | omega) _ | refine Below.setCell ?_ (by first | exact Nat.le_refl _ | (simp only [World.size_alloc, World.size_setCell, World.size_drew]; omega) | omega) _ | refine Below.drew ?_)))).mono ?_
    rintro e w1 ⟨s, va, vn, vc, rfl, _, hb⟩
    rw [HM.out]
    have b1 : Below w.heap.size w w1 := Below.trans (by repeat (first | exact Below.refl _ _ | assumption | refine Below.alloc ?_ (by first | exact Nat.le_refl _ | (simp only [World.size_alloc, World.size_setCell, World.size_drew]; omega) | omega) _ | refine Below.setCell ?_ (by first | exact Nat.le_refl _ | (simp only [World.size_alloc, World.size_setCell, World.size_drew]; omega) | omega) _ | refine Below.drew ?_)) (hb.mono (by first | (simp only [World.size_alloc, World.size_setCell, World.size_drew]; omega) | omega))
    clear hb
    go_wp2_with fail
    go_ret2
    exact ⟨ret_ib' H1.out.symm rfl, b1.alloc b1.size _⟩
  · have HM := Lib.hid hm
    have H1 : Hid (smV xss = matS xss xss.length) := by simp [Hid, smV, hm]
    clear hm
    go_enter Tryz.func53, Tryz.ntmps53
    go_wp2_with fail
    refine (HCL.out _ (hx.below (by repeat (first | exact Below.refl _ _ | assumption | refine Below.alloc ?_ (by first | exact Nat.le_refl _ | (simp only [World.size_alloc, World.size_setCell, World.size_drew]; omega) | omega) _ | refine Below.setCell ?_ (by first | exact Nat.le_refl _ | (simp only [World.size_alloc, World.size_setCell, World.size_drew]; omega) | omega) _ | refine Below.drew ?_)))).mono ?_
    rintro e w1 ⟨s, va, vn, vc, rfl, hok, hb⟩
    have hok2 := Lib.hid (hok HM.out).1
    rw [HM.out]
    have b1 : Below w.heap.size w w1 := Below.trans (by repeat (first | exact Below.refl _ _ | assumption | refine Below.alloc ?_ (by first | exact Nat.le_refl _ | (simp only [World.size_alloc, World.size_setCell, World.size_drew]; omega) | omega) _ | refine Below.setCell ?_ (by first | exact Nat.le_refl _ | (simp only [World.size_alloc, World.size_setCell, World.size_drew]; omega) | omega) _ | refine Below.drew ?_)) (hb.mono (by first | (simp only [World.size_alloc, World.size_setCell, World.size_drew]; omega) | omega))
    clear hb hok
    go_wp2_with fail
    go_ret2
    exact ⟨ret_ib' (by rw [H1.out, hok2.out]) rfl, b1.alloc b1.size _⟩

theorem wpList_append_rd {w : World} {ops : Array Oper} {rest : List Oper} {o : Oper} {a : Act} {Q : Exit → Act → World → Prop} (hgd : o.guard = none) (s x : Operand)
    (ho : o.op = .call { callee := .builtin .append, args := #[s, x], argTypes := #[24, 24] })
    (base : Nat) (v : Value) (zs : List Int) (hs : a.eval s = v) (hown : OwnI w base v zs) (ad : Option Addr) (xs : List Int) (cap : Nat) (hx : a.eval x = .slice ad xs.length cap) (hr : Rd w ad xs)
    (hsm : zs.length + xs.length ≤ 1000) (hbase : base ≤ w.heap.size)
    (h : ∀ v' w', OwnI w' base v' (zs ++ xs) → w.grownBy w' v.ownBlock → wpList Tryz.prog ops Q rest (a.put o.dst v') w') : wpList Tryz.prog ops Q (o :: rest) a w := by
  obtain ⟨i0, hi, hz0, hz1, hz2⟩ := info_parts infoInt
  cases ad with
  | none =>
    have h0 : xs = [] := by
      rcases xs with _ | ⟨y, t⟩
      · rfl
      · obtain ⟨b, off, e, _⟩ := hr.cell 0 (by simp)
        cases e
    subst h0
    exact wpList_append_none hgd s x 24 ho base 3 i0 1 Tryz.underlying24 hi v zs.length cap (zs.map (Value.int .i64)) hs hown hx (h v w (by rw [List.append_nil]; exact hown) (World.grownBy.refl _ _))
  | some ad =>
    refine wpList_append_own _ hgd s x 24 ho base 3 i0 (.int .i64 0) 1 8 Tryz.underlying24 hi hz0 hz1 hz2 rfl (by decide) v zs.length (zs.map (Value.int .i64)) hs hown ad xs.length cap (xs.map (Value.int .i64)) hx (by simp) (rd_news hr) (ints_one xs) (by unfold maxLen; omega) (by omega) hbase ?_
    intro v' w' h1 h2 _
    refine h v' w' ?_ h2
    unfold OwnI
    rw [List.length_append, List.map_append]
    exact h1

end Go.Proofs.YtiodfmiielnngaaGreat.ascentsBuildEnds
