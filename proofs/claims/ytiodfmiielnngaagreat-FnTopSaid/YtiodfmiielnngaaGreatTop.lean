/- PROVED: the law FnTop returns true for every input, and each of its arguments reads afterwards as before. No conditions. -/
import Derived.Test.YtiodfmiielnngaaGreatRows
import Derived.WalkKit
import Derived.WalkSpells
import Derived.WalkLawsBesides
import Derived.Deep.QuietTactic
import Derived.BigQuiet
import Derived.ProofKit
import Derived.OpenShut
import Derived.ShutString
import Derived.ChangeOld
import Derived.Below
import Derived.Lib.SmallJoins
import Derived.Lib.Hide
import Derived.Shelf.Small.Bits
import Derived.Shelf.Small.Wraps
import Derived.Shelf.Strconv.Itoa0
import Derived.Shelf.Sort.Plain
import Derived.Shelf.Slices.Reverse
import Derived.Shelf.Slices.Equal
import Derived.Shelf.Slices.CompactI
import Derived.Shelf.Slices.SearchI
import Derived.Shelf.Slices.Delete
import Derived.Shelf.Slices.Cells
import Derived.Shelf.Slices.In.SortNone
import Derived.Shelf.Slices.Empties
import Derived.Shelf.Slices.Empties2
import Derived.Shelf.SlicesE.Reverse
import Derived.Shelf.SlicesE.Delete
import Derived.Sort.OwnSortedInts
import Derived.Lib.SliceRun
import Derived.Deep.RegionLaw
import Derived.Maps.AppendAt
import Derived.Deep.AppendLies
import Derived.Deep.RegionHeld3
import Derived.Lib.SlicesCompact
import Derived.Lib.RowBridge
import Derived.Shelf.Spec.SlicesInsertGrow
import Derived.Test.YtiodfmiielnngaaGreatTopP4
namespace Go.Proofs.YtiodfmiielnngaaGreat.top
open Go Go.RowKit
set_option linter.unusedVariables false
set_option linter.unusedSimpArgs false
set_option maxHeartbeats 400000
open Go.Shelf
set_option maxRecDepth 100000 in
set_option maxHeartbeats 1000000 in
theorem iShrink_any (a : Option Addr) (xss : List (List Int)) (cap : Nat) (w : World) (hx : RdC w a xss) (hs : xss.length + totS xss xss.length ≤ 1048576) :
    Calls Tryz.prog 54 #[.agg #[.slice a xss.length cap]] w fun e w' => ∃ a0 c0 vl, e = .returned (.tuple #[.agg #[.slice a0 (shL xss).length c0], .int .i64 (topV xss), .bool (topB xss)]) ∧ RowsP w' w.heap.size (.slice a0 (shL xss).length c0) vl (shL xss) ∧ Below w.heap.size w w' := by
  have hlen := hx.rd.len
  have hV := Var1.new (w.alloc (.cells #[.slice a xss.length cap] 45)) (.slice none 0 0) 45
  have hb0 : Below w.heap.size w ((w.alloc (.cells #[.slice a xss.length cap] 45)).alloc (.cells #[.slice none 0 0] 45)) := (by repeat (first | exact Below.refl _ _ | assumption | refine Below.alloc ?_ (by first | exact Nat.le_refl _ | (simp only [World.size_alloc, World.size_setCell, World.size_drew]; omega) | omega) _ | refine Below.setCell ?_ (by first | exact Nat.le_refl _ | (simp only [World.size_alloc, World.size_setCell, World.size_drew]; omega) | omega) _ | refine Below.drew ?_))
  rw [World.size_alloc] at hV
  have HCL := Lib.hid (fun W (h : RdC W a xss) => iTopMx_any a xss cap W h hs)
  cases hm : topB xss
  · have HM := Lib.hid hm
    have H1 : Hid (shL xss = []) := by simp [Hid, shL, hm]
    have H2 : Hid (topV xss = 0) := by rw [Hid, topV, hm]; rfl
    clear hm
    go_enter Tryz.func54, Tryz.ntmps54
    go_wp2_with fail
    refine (HCL.out _ (hx.below hb0)).mono ?_
    rintro e w1 ⟨rfl, hb⟩
    rw [HM.out, H2.out]
    have b1 : Below w.heap.size w w1 := hb0.trans (hb.mono (by simp; omega))
    have hV1 := hV.below hb
    have ⟨⟨zV, cV⟩, fV⟩ := hV1
    clear hb hV
    go_wp2_with fail
    have hV2 := hV1.set (.slice none 0 0)
    have b2 := b1.setCell (p := ⟨w.heap.size + 1, 0, none⟩) (by simp) (.slice none 0 0)
    refine bodyPost_ret (v := .tuple #[.agg #[.slice none 0 0], .int .i64 0, .bool false]) (by have ⟨⟨_, q1⟩, _⟩ := hV2; simp [results, Tryz.results54, go_sem, q1]) rfl ?_
    exact ⟨none, 0, [], by rw [H1.out, H2.out]; rfl, by rw [H1.out]; exact RowsP.nil _ _, b2⟩
  · have HM := Lib.hid hm
    have ⟨hmx, hpos⟩ := topB_mx hm
    have h12 := mxB_small hmx
    have HMX := Lib.hid hmx
    have htl := topN_lt hmx hpos
    have H2 : Hid (topV xss = ((topN xss : Nat) : Int)) := by rw [Hid, topV, hm]; rfl
    have HE := Lib.hid (mx_eta hmx)
    have HNB := Lib.hid (mxB_num hmx htl (j := xss.length - 1) (by omega))
    have HSH : Hid (shL xss = if totR (rowL xss (topN xss)) = 1 then sqM (shF (decF (atM xss) xss.length (topN xss)) xss.length (topN xss)) (xss.length - 1) (xss.length - 1) else sqM (decF (atM xss) xss.length (topN xss)) xss.length xss.length) := by rw [Hid, shL, if_pos hm, shF_dec]
    have HRC := Lib.hid (fun W (h : RdC W a xss) => rowsOf_any a xss cap W h hs)
    obtain ⟨T, hT⟩ : ∃ T, T = topN xss := ⟨_, rfl⟩
    have HT := Lib.hid hT
    rw [← hT] at htl H2 HSH HNB
    have HX := Lib.hid hx
    clear hm hmx hx hT hs
    go_enter Tryz.func54, Tryz.ntmps54
    go_wp2_with fail
    refine (HCL.out _ (HX.out.below hb0)).mono ?_
    rintro e w1 ⟨rfl, hb⟩
    rw [HM.out, H2.out]
    have b1 : Below w.heap.size w w1 := hb0.trans (hb.mono (by simp; omega))
    have hV1 := hV.below hb
    have hc1 := (hb.cell (p := ⟨w.heap.size, 0, none⟩) (by simp; omega)).trans (show _ = some (Value.slice a xss.length cap) by simp)
    have hz1 : w.heap.size + 2 ≤ w1.heap.size := by have := hb.size; simp at this; omega
    clear hb hV hb0 HCL
    go_wp2_with fail
    refine (HRC.out _ (HX.out.below b1)).mono ?_
    rintro e w2 ⟨s, va, vn, vc, rfl, hok, hb2⟩
    rw [HMX.out]
    obtain ⟨vl, hp⟩ := (hok HMX.out).2
    obtain rfl := hp.vn
    have b2 := b1.trans (hb2.mono b1.size)
    have hV2 := (hV1.below hb2).alloc (.cells #[.int .i64 s, .slice va xss.length vc] 108)
    have b2' := b2.alloc b2.size (.cells #[.int .i64 s, .slice va xss.length vc] 108)
    have hP2 := Box2.new w2 (.int .i64 s) (.slice va xss.length vc) 108
    have hz2 : w.heap.size + 2 ≤ w2.heap.size := by have := hb2.size; omega
    have hp2 := hp.below ((Below.refl _ _).alloc (Nat.le_refl _) (.cells #[.int .i64 s, .slice va xss.length vc] 108)) (Nat.le_refl _)
    have HNUM := Lib.hid (numbersOf_any s va vc _ vl xss (w2.alloc (.cells #[.int .i64 s, .slice va xss.length vc] 108)) hp2 (by simp; have := hb2.size; omega) (by omega))
    have HP2 := Lib.hid hp2
    have HV2 := Lib.hid hV2
    have ⟨zP2, cP2, dP2⟩ := hP2
    have HPB := Lib.hid hp.blk
    clear hb2 hok hp hV1 HRC b2 hp2 hV2 hc1
    go_wp2_with fail
    refine HNUM.out.mono ?_
    rintro e w3 ⟨g, rfl, hro, hb3⟩
    have b3 := b2'.trans (hb3.mono b2'.size)
    have hP3 := hP2.below hb3
    have HV3 := Lib.hid (HV2.out.below hb3)
    have hp3 := HP2.out.below hb3 (Nat.le_refl _)
    obtain ⟨gp, rfl, hgp, hcs, _⟩ := hp3.at (k := T) htl
    have hvT := hp3.apart T htl
    have hro2 := hro.mono (B' := w.heap.size + 2) hz1
    obtain ⟨g6, c6, e6, hg6, hg7, hc6, hf6, hnew⟩ := hro2.num (i := T) (j := xss.length - 1) htl (by rw [mxB_len HMX.out htl]; omega)
    have hgne : gp ≠ g6 := fun h => hvT g6 (by rw [e6]; rfl) (by rw [h]; rfl)
    obtain ⟨g4, e4, hg4, hg5, hc4, hf4⟩ := hro2.outer (k := T) htl
    simp only [Option.some.injEq, Addr.mk.injEq, and_true] at e4
    subst e4
    have hg7ne : g6 ≠ w2.heap.size := fun h => by
      have h1 := HPB.out.2 T htl g6 (by rw [e6]; rfl)
      omega
    rw [e6, mxB_len HMX.out htl] at hc4
    have hset := hnew (atM xss T (xss.length - 1) - 1)
    have hmat : setM xss T (xss.length - 1) (atM xss T (xss.length - 1) - 1) = sqM (decF (atM xss) xss.length T) xss.length xss.length := by
      have h := setM_sq (f := atM xss) (n := xss.length) (m := xss.length) (i := T) (j := xss.length - 1) (x := atM xss T (xss.length - 1) - 1) htl (by omega)
      rw [← HE.out] at h
      rw [h]
      exact sqM_congr (fun p hp q hq => by rw [decF])
    rw [hmat] at hset
    have b4 := b3.setCell (p := ⟨g6, xss.length - 1, none⟩) (show w.heap.size ≤ g6 by omega) (.int .i64 (atM xss T (xss.length - 1) - 1))
    have hV4 := HV3.out.other (p := ⟨g6, xss.length - 1, none⟩) (.int .i64 (atM xss T (xss.length - 1) - 1)) (show w.heap.size + 1 ≠ g6 by omega)
    have hP4 := hP3.set (p := ⟨g6, xss.length - 1, none⟩) (.int .i64 (atM xss T (xss.length - 1) - 1)) (show w2.heap.size ≠ g6 by omega)
    have ⟨zP3, cP3, dP3⟩ := hP3
    have ⟨hz0, hz9⟩ := HNB.out
    obtain ⟨Z, hZ⟩ : ∃ Z, Z = atM xss T (xss.length - 1) := ⟨_, rfl⟩
    rw [← hZ] at hc6 hset b4 hV4 hP4 hz0 hz9
    obtain ⟨S, hS⟩ : ∃ S, S = totR (rowL xss T) := ⟨_, rfl⟩
    rw [← hS] at hcs HSH
    obtain ⟨N, hN⟩ : ∃ N, N = xss.length := ⟨_, rfl⟩
    have HN := Lib.hid hN
    rw [← hN] at hlen h12 htl hpos hc6 hf6 hc4 hset b4 hV4 hP4 HSH dP3 ⊢
    have hcast : ((N : Int) - 1) = ((N - 1 : Nat) : Int) := by omega
    have hN1 : N - 1 < N := by omega
    have HS4 := Lib.hid hset
    have HV4 := Lib.hid hV4
    have ⟨zP4, cP4, dP4⟩ := hP4
    have hcs4 : (w3.setCell ⟨g6, N - 1, none⟩ (.int .i64 (Z - 1))).cell? ⟨gp, T * 2, none⟩ = some (.int .i64 S) := (World.cell?_setCell_other _ _ _ _ (by intro h9; exact hgne (congrArg Addr.block h9).symm)).trans hcs
    clear hro hro2 hnew hvT hp3 hP3 hb3 HNUM hP2 hset hV4 e6 hmat hZ hS hN cP2 dP2 hP4
    have hws : w.heap.size + 2 ≤ (w3.setCell ⟨g6, N - 1, none⟩ (.int .i64 (Z - 1))).heap.size := by have := b3.size; simp; omega
    by_cases hS1 : S = 1
    · have hSS : (S == 1) = true := by simp [hS1]
      rw [if_pos hS1] at HSH
      have HTK := Lib.hid (takeOut_any g N (w.heap.size + 2) N T vl (decF (atM xss) N T) _ HS4.out htl hws h12 (Nat.le_refl _) (by omega))
      clear hS1
      go_wp2_with fail
      refine HTK.out.mono ?_
      rintro e w5 ⟨ul, rfl, hro5, hb5⟩
      have b5 := b4.trans (hb5.mono (by omega : w.heap.size ≤ w.heap.size + 2))
      have hV5 : Var1 w5 (w.heap.size + 1) (.slice none 0 0) := ⟨⟨by have := hb5.size; omega, (hb5.cell (p := ⟨w.heap.size + 1, 0, none⟩) (show w.heap.size + 1 < w.heap.size + 2 by omega)).trans HV4.out.1.2⟩, (hb5.frozen (p := ⟨w.heap.size + 1, 0, none⟩) (show w.heap.size + 1 < w.heap.size + 2 by omega)).trans HV4.out.2⟩
      have ⟨⟨zV5, cV5⟩, fV5⟩ := hV5
      have HR5 := Lib.hid hro5
      have HV5 := Lib.hid hV5
      clear hro5 hb5 hV5 HTK
      go_wp2_with fail
      have hV6 := HV5.out.set (.slice (some ⟨g, 0, none⟩) (N - 1) N)
      have b6 := b5.setCell (p := ⟨w.heap.size + 1, 0, none⟩) (by simp) (.slice (some ⟨g, 0, none⟩) (N - 1) N)
      refine bodyPost_ret (v := .tuple #[.agg #[.slice (some ⟨g, 0, none⟩) (N - 1) N], .int .i64 (T : Int), .bool true]) (by have ⟨⟨_, q1⟩, _⟩ := hV6; simp [results, Tryz.results54, go_sem, q1]) rfl ?_
      exact ⟨some ⟨g, 0, none⟩, N, ul, by rw [HSH.out, H2.out, sqM_len], by rw [HSH.out, sqM_len]; exact (HR5.out.setBelow (show w.heap.size + 1 < w.heap.size + 2 by omega) _).mono (by omega), b6⟩
    · have hSS : (S == 1) = false := by simp [hS1]
      rw [if_neg hS1] at HSH
      have ⟨⟨zV5, cV5⟩, fV5⟩ := HV4.out
      clear hS1
      go_wp2_with fail
      have hV6 := HV4.out.set (.slice (some ⟨g, 0, none⟩) N N)
      have b6 := b4.setCell (p := ⟨w.heap.size + 1, 0, none⟩) (by simp) (.slice (some ⟨g, 0, none⟩) N N)
      refine bodyPost_ret (v := .tuple #[.agg #[.slice (some ⟨g, 0, none⟩) N N], .int .i64 (T : Int), .bool true]) (by have ⟨⟨_, q1⟩, _⟩ := hV6; simp [results, Tryz.results54, go_sem, q1]) rfl ?_
      exact ⟨some ⟨g, 0, none⟩, N, vl, by rw [HSH.out, H2.out, sqM_len], by rw [HSH.out, sqM_len]; exact (HS4.out.setBelow (show w.heap.size + 1 < w.heap.size + 2 by omega) _).mono (by omega), b6⟩

theorem wpList_append_rd {w : World} {ops : Array Oper} {rest : List Oper} {o : Oper} {a : Act} {Q : Exit → Act → World → Prop} (hgd : o.guard = none) (s x : Operand)
    (ho : o.op = .call { callee := .builtin .append, args := #[s, x], argTypes := #[24, 24] })
    (base : Nat) (v : Value) (zs : List Int) (hs : a.eval s = v) (hown : OwnI w base v zs) (ad : Option Addr) (xs : List Int) (cap : Nat) (hx : a.eval x = .slice ad xs.length cap) (hr : Rd w ad xs)
    (hsm : zs.length + xs.length ≤ 1000) (hbase : base ≤ w.heap.size)
    (h : ∀ v' w', OwnI w' base v' (zs ++ xs) → w.grownBy w' v.ownBlock → wpList Tryz.prog ops Q rest (a.put o.dst v') w') : wpList Tryz.prog ops Q (o :: rest) a w := by
  obtain ⟨i0, hi, hz0, hz1, hz2⟩ := info_parts infoInt
  cases ad with
  | none =>
    have h0 : xs = [] := by
      rcases xs with _ | ⟨y, t⟩
      · rfl
      · obtain ⟨b, off, e, _⟩ := hr.cell 0 (by simp)
        cases e
    subst h0
    exact wpList_append_none hgd s x 24 ho base 3 i0 1 Tryz.underlying24 hi v zs.length cap (zs.map (Value.int .i64)) hs hown hx (h v w (by rw [List.append_nil]; exact hown) (World.grownBy.refl _ _))
  | some ad =>
    refine wpList_append_own _ hgd s x 24 ho base 3 i0 (.int .i64 0) 1 8 Tryz.underlying24 hi hz0 hz1 hz2 rfl (by decide) v zs.length (zs.map (Value.int .i64)) hs hown ad xs.length cap (xs.map (Value.int .i64)) hx (by simp) (rd_news hr) (ints_one xs) (by unfold maxLen; omega) (by omega) hbase ?_
    intro v' w' h1 h2 _
    refine h v' w' ?_ h2
    unfold OwnI
    rw [List.length_append, List.map_append]
    exact h1

theorem asN_pos {xss : List (List Int)} (h : 0 < asN xss) : 0 < xss.length := by
  apply Nat.pos_of_ne_zero
  intro e
  have h1 : xss = [] := List.eq_nil_of_length_eq_zero e
  rw [h1] at h
  exact absurd h (by decide)
theorem rep_set (q : Nat) (x : Int) (l : List Int) : (List.replicate (q+1) (0:Int) ++ l).set q x = List.replicate q 0 ++ x :: l := by
  rw [List.replicate_succ', List.append_assoc, List.set_append_right _ _ (by simp)]
  simp
set_option maxRecDepth 100000 in
set_option maxHeartbeats 2000000 in
theorem iAscM_any (a : Option Addr) (xss : List (List Int)) (cap : Nat) (w : World) (hx : RdC w a xss) (hs : xss.length + totS xss xss.length ≤ 1048576) :
    Calls Tryz.prog 24 #[.agg #[.slice a xss.length cap]] w fun e w' => ∃ a0 c0, e = .returned (.tuple #[.slice a0 (amL xss).length c0, .bool (mxB xss)]) ∧ OwnI w' w.heap.size (.slice a0 (amL xss).length c0) (amL xss) ∧ Below w.heap.size w w' := by
  have hV := Var1.new w (.slice a xss.length cap) 45
  have hb0 : Below w.heap.size w (w.alloc (.cells #[.slice a xss.length cap] 45)) := (by repeat (first | exact Below.refl _ _ | assumption | refine Below.alloc ?_ (by first | exact Nat.le_refl _ | (simp only [World.size_alloc, World.size_setCell, World.size_drew]; omega) | omega) _ | refine Below.setCell ?_ (by first | exact Nat.le_refl _ | (simp only [World.size_alloc, World.size_setCell, World.size_drew]; omega) | omega) _ | refine Below.drew ?_))
  have ⟨⟨zV, cV⟩, fV⟩ := hV
  have HCL := Lib.hid (fun W (h : RdC W a xss) => iSumMx_any a xss cap W h hs)
  cases hm : mxB xss
  · have HM := Lib.hid hm
    have H1 : Hid (amL xss = []) := by simp [Hid, amL, hm]
    clear hm
    go_enter Tryz.func24, Tryz.ntmps24
    go_wp2_with fail
    refine (HCL.out _ (hx.below hb0)).mono ?_
    rintro e w1 ⟨rfl, hb⟩
    rw [HM.out]
    have b1 : Below w.heap.size w w1 := hb0.trans (hb.mono (by simp))
    clear hb
    go_wp2_with fail
    refine bodyPost_ret (v := .tuple #[.slice none 0 0, .bool false]) (by simp [results, Tryz.results24, go_sem]) rfl ?_
    exact ⟨none, 0, by rw [H1.out]; rfl, by rw [H1.out]; exact OwnI.nil _ _, b1⟩
  · have HM := Lib.hid hm
    have H1 : Hid (amL xss = asL xss) := by simp [Hid, amL, hm]
    have h12 : asN xss ≤ 12 := by have := of_mx hm; rw [asN]; omega
    have hlenL : (asL xss).length = asN xss := asF_len _ _
    have HL : Hid ((asL xss).length = asN xss) := hlenL
    have HS : Hid (smV xss = ((asN xss : Nat) : Int)) := by
      rw [Hid, smV, if_pos hm, asN]
      have := matS_nn (xss := xss) (k := xss.length) (fun j hj => by have := (adB_row (mxB_iff.1 hm).1 hj).1; omega)
      omega
    obtain ⟨i0, hi, hz0, hz1, hz2⟩ := info_parts infoInt
    obtain ⟨N, hN⟩ : ∃ N, N = asN xss := ⟨_, rfl⟩
    have HN := Lib.hid hN
    rw [← hN] at h12 HS HL
    clear hm hN hlenL
    go_enter Tryz.func24, Tryz.ntmps24
    go_wp2_with fail
    refine (HCL.out _ (hx.below hb0)).mono ?_
    rintro e w1 ⟨rfl, hb⟩
    rw [HM.out, HS.out]
    have b1 : Below w.heap.size w w1 := hb0.trans (hb.mono (by simp))
    have hV1 := hV.below hb
    have hz1' : w.heap.size + 1 ≤ w1.heap.size := by have := hb.size; simpa using this
    have ⟨⟨zV1, cV1⟩, fV1⟩ := hV1
    clear hb hV zV cV fV hb0 HCL
    go_wp2_with (at_make; refine wpList_make_full _ rfl (.tmp 15) (.tmp 15) 24 rfl (w.heap.size + 1) 3 i0 (.int .i64 0) 1 Tryz.underlying24 hi hz0 hz1 .i64 .i64 _ _ N rfl rfl rfl rfl (by rw [hz2]; omega) (by unfold maxLen; omega) hz1' ?_; intro w3 hown hgrow; have hV3 := hV1.kept hgrow (by simp); have b3 : Below w.heap.size w w3 := b1.trans (below_grown_none hgrow b1.size); have HO : Hid (OwnI w3 (w.heap.size + 1) (.slice (some ⟨w1.heap.size, 0, none⟩) N N) (List.replicate N 0)) := by (unfold Hid OwnI; rw [List.length_replicate]; simpa [Value.cells, toList_madeCells_one] using hown))
    have hG1 : w.heap.size + 1 ≤ w1.heap.size := hz1'
    have hx3 := hx.below b3
    clear hown hgrow hV1 zV1 cV1 fV1 b1 hz1' hx
    go_loopw [7] (fun i wr => ∃ (k : Nat) (cur : List (List Int)) (ac : Option Addr) (cc : Nat) (lst : List Int), i = .int .i64 ((k : Int) - 1) ∧ mxB cur = true ∧ cur.length + totS cur cur.length ≤ 1048576 ∧ Hid (asN cur = k) ∧ k + lst.length = N ∧ Hid (asF (asN cur) cur ++ lst = asL xss) ∧ OwnI wr (w.heap.size + 1) (.slice (some ⟨w1.heap.size, 0, none⟩) N N) (List.replicate k 0 ++ lst) ∧ Var1 wr w.heap.size (.slice ac cur.length cc) ∧ RdC wr ac cur ∧ Below w.heap.size w wr) (fun i _ => (intOf i + 1).toNat)
    case atStart => exact ⟨N, xss, a, cap, [], by go_num, HM.out, hs, HN.out.symm, by simp, by rw [Hid, List.append_nil]; rfl, by rw [List.append_nil]; exact HO.out, hV3, hx3, b3⟩
    case round =>
      clear hV3 b3 HO hs hx3
      obtain ⟨k, cur, ac, cc, lst, rfl, hmc, hsz, hk, hlen, heq, hown, hV, hr, hb⟩ := hrel
      have ⟨⟨zV, cV⟩, fV⟩ := hV
      have HO := Lib.hid hown
      cases k with
      | succ q =>
        have e1 : (((q + 1 : Nat) : Int) - 1) = (q : Int) := by omega
        rw [e1]
        have HT := Lib.hid (topB_of hmc (asN_pos (by rw [hk.out]; omega)))
        have HSH := Lib.hid (iShrink_any ac cur cc wr hr hsz)
        have HMC := Lib.hid hmc
        have HV := Lib.hid hV
        have hlt := (World.ownsRow.lt hown w1.heap.size (by simp [Value.ownBlock])).2
        clear hmc hsz hown hV hr
        go_wp2_with fail
        refine HSH.out.mono ?_
        rintro e w2 ⟨a0, c0, vl, rfl, hP, hb2⟩
        have hV2 := HV.out.below hb2
        have ⟨⟨zV2, cV2⟩, fV2⟩ := hV2
        have hV3 := hV2.set (.slice a0 (shL cur).length c0)
        have hO3 := (HO.out.below hb2 (Nat.le_refl _)).setBelow (p := ⟨w.heap.size, 0, none⟩) (by simp) (.slice a0 (shL cur).length c0)
        have hP3 := hP.setBelow (p := ⟨w.heap.size, 0, none⟩) zV (.slice a0 (shL cur).length c0)
        have ⟨hcc, hfr⟩ := (HO.out.below hb2 (Nat.le_refl _)).at' (i := q) (by simp; omega) (by simp; omega)
        have hput := (hO3.put (by simp; omega) q (topV cur)).1
        rw [rep_set] at hput
        have HPUT := Lib.hid hput
        have HV4 := Lib.hid (hV3.other (p := ⟨w1.heap.size, q, none⟩) (.int .i64 (topV cur)) (by simp; omega))
        have HP4 := Lib.hid (hP3.setBelow (p := ⟨w1.heap.size, q, none⟩) hlt (.int .i64 (topV cur)))
        have HB4 := Lib.hid (((hb.trans (hb2.mono hb.size)).setCell (p := ⟨w.heap.size, 0, none⟩) (by simp) (.slice a0 (shL cur).length c0)).setCell (p := ⟨w1.heap.size, q, none⟩) (by simp; omega) (.int .i64 (topV cur)))
        have hqN : q < N := by omega
        have hqN2 : (q : Int) < (N : Int) := by omega
        clear hV3 hO3 hP3 hput hP
        go_wp2_with fail
        go_roundw
        case rel => exact ⟨q, shL cur, a0, c0, topV cur :: lst, by go_num, (sh_mx HT.out).1, shL_len _, by have h1 := asN_step HT.out; have h2 := hk.out; unfold Hid; omega, by simp; omega, by rw [Hid, ← asF_step HT.out]; exact heq.out, HPUT.out, HV4.out, HP4.out.rdC, HB4.out⟩
        case measure => simp [intOf]
      | zero =>
        have hL : asL xss = lst := by
          rw [← heq.out, hk.out]; rfl
        have HL2 := Lib.hid hL
        have HLN : Hid (lst.length = N) := by unfold Hid; omega
        clear heq hr hmc hL
        go_wp2_with fail
        refine bodyPost_ret (v := .tuple #[.slice (some ⟨w1.heap.size, 0, none⟩) N N, .bool true]) (by simp [results, Tryz.results24, go_sem]) rfl ?_
        exact ⟨some ⟨w1.heap.size, 0, none⟩, N, by rw [H1.out, HL2.out, HLN.out], by rw [H1.out, HL2.out, HLN.out]; have h := HO.out.mono (B' := w.heap.size) (Nat.le_succ _); simpa using h, hb⟩

theorem iAscOrd_any (n : Int) (a : Option Addr) (xs : List Int) (cap : Nat) (w : World) (hn : -9223372036854775808 ≤ n ∧ n ≤ 9223372036854775807) (hx : Rd w a xs) :
    Calls Tryz.prog 18 #[.agg #[.int .i64 n, .slice a xs.length cap]] w (GotI w (aooL n xs) (isIv n xs)) := by
  have hlen := hx.len
  obtain ⟨W0, hW0⟩ : ∃ x : World, x = w.alloc (.cells #[.int .i64 n, .slice a xs.length cap] 31) := ⟨_, rfl⟩
  have bw0 : Below w.heap.size w W0 := by rw [hW0]; exact (Below.refl _ _).alloc (Nat.le_refl _) _
  have B0 : Box2 W0 w.heap.size (.int .i64 n) (.slice a xs.length cap) := by rw [hW0]; exact Box2.new w _ _ _
  have hx0 := hx.below bw0
  obtain ⟨g0, hg0⟩ : ∃ g, g = w.heap.size := ⟨_, rfl⟩
  have HC := Lib.hid (fun W (h : Rd W a xs) => iMxOrd_any n a xs cap W hn h)
  have HSZ := Lib.hid (moL_len n xs)
  cases hm : isIv n xs
  · have HL : Hid (aooL n xs = []) := by simp [Hid, aooL, hm]
    have HML : Hid (moL n xs = []) := by simp [Hid, moL, hm]
    rw [hm, HML.out] at HC
    clear hm hx
    go_enter Tryz.func18, Tryz.ntmps18
    go_wp2_with fail
    rw [← hW0]
    rw [← hg0] at B0 ⊢
    have ⟨zB0, cB0, dB0⟩ := B0
    clear hg0 hW0
    go_wp2_with fail
    refine (HC.out _ hx0).mono ?_
    rintro e w1 ⟨a1, c1, vl, rfl, hro, hb⟩
    have b1 := bw0.trans (hb.mono bw0.size)
    have b2 := b1.alloc b1.size (.cells #[.slice a1 ([] : List (List Int)).length c1] 45)
    clear cB0 dB0 hro
    go_wp2_with fail
    refine bodyPost_ret (v := .tuple #[.slice none 0 0, .bool false]) (by simp [results, Tryz.results18, go_sem]) rfl ?_
    exact gotI_no HL.out rfl b2
  · have HG := Lib.hid (mo_good hm)
    have HL : Hid (aooL n xs = amL (moL n xs)) := by rw [Hid, aooL, if_pos hm]
    rw [hm] at HC
    have HA := Lib.hid (fun W a0 c0 (h : RdC W a0 (moL n xs)) => iAscM_any a0 (moL n xs) c0 W h HSZ.out)
    rw [HG.out] at HA
    obtain ⟨L, hL⟩ : ∃ L, L = moL n xs := ⟨_, rfl⟩
    rw [← hL] at HC HA HL
    clear hm hx hL HSZ HG
    go_enter Tryz.func18, Tryz.ntmps18
    go_wp2_with fail
    rw [← hW0]
    rw [← hg0] at B0 ⊢
    have ⟨zB0, cB0, dB0⟩ := B0
    clear hg0 hW0
    go_wp2_with fail
    refine (HC.out _ hx0).mono ?_
    rintro e w1 ⟨a1, c1, vl, rfl, hro, hb⟩
    have b1 := bw0.trans (hb.mono bw0.size)
    have b2 := b1.alloc b1.size (.cells #[.slice a1 L.length c1] 45)
    have hrc := hro.rdC.below (show Below w1.heap.size w1 (w1.alloc (.cells #[.slice a1 L.length c1] 45)) from (Below.refl _ _).alloc (Nat.le_refl _) _)
    have HAA := Lib.hid (HA.out _ a1 c1 hrc)
    clear cB0 dB0 hro hrc
    go_wp2_with fail
    refine HAA.out.mono ?_
    rintro e w3 ⟨a3, c3, rfl, ho3, hb3⟩
    go_wp2_with fail
    refine bodyPost_ret (v := .tuple #[.slice a3 (amL L).length c3, .bool true]) (by simp [results, Tryz.results18, go_sem]) rfl ?_
    exact ⟨a3, c3, by rw [HL.out], by rw [HL.out]; exact ho3.mono b2.size, b2.trans (hb3.mono b2.size)⟩

theorem iFirst_any (n : Int) (a : Option Addr) (xs : List Int) (cap : Nat) (w : World) (hn : -9223372036854775808 ≤ n ∧ n ≤ 9223372036854775807) (hx : Rd w a xs) :
    Calls Tryz.prog 31 #[.agg #[.int .i64 n, .slice a xs.length cap]] w fun e w' => ∃ a' cap', e = .returned (.tuple #[.slice a' (fstL n xs).length cap', .bool (ordB n xs)]) ∧ OwnI w' w.heap.size (.slice a' (fstL n xs).length cap') (fstL n xs) ∧ Below w.heap.size w w' := by
  have hx1 := hx.alloc (.cells #[.int .i64 n, .slice a xs.length cap] 31)
  obtain ⟨i0, hi, hz0, hz1, hz2⟩ := info_parts infoInt
  cases hr : ordB n xs
  · have H2 : Hid (fstL n xs = []) := by simp [Hid, fstL, hr]
    go_enter Tryz.func31, Tryz.ntmps31
    go_wp2_with fail
    refine (iIsOrder_any _ _ _ _ _ hn hx1).mono ?_
    rw [hr]
    rintro e w1 ⟨rfl, hb1⟩
    have bw1 : Below w.heap.size w w1 := Below.trans (by repeat (first | exact Below.refl _ _ | assumption | refine Below.alloc ?_ (by first | exact Nat.le_refl _ | (simp only [World.size_alloc, World.size_setCell, World.size_drew]; omega) | omega) _ | refine Below.setCell ?_ (by first | exact Nat.le_refl _ | (simp only [World.size_alloc, World.size_setCell, World.size_drew]; omega) | omega) _ | refine Below.drew ?_)) (hb1.mono (by first | (simp only [World.size_alloc, World.size_setCell, World.size_drew]; omega) | omega))
    go_wp2_with fail
    refine bodyPost_ret (v := .tuple #[.slice none 0 0, .bool false]) (by simp [results, Tryz.results31, go_sem]) rfl ?_
    exact ⟨none, 0, by rw [H2.out]; rfl, by rw [H2.out]; exact OwnI.nil _ _, bw1⟩
  · have hp := ord_rel hr
    have hl10 : xs.length ≤ 10 := by have := hp.len; have := hp.n1; omega
    have hn0 := hp.n0
    have H2 : Hid (fstL n xs = firsts xs xs.length) := by simp [Hid, fstL, hr]
    have HR := Lib.hid hr
    obtain rfl : n = (xs.length : Int) := hp.len.symm
    clear hr
    go_enter Tryz.func31, Tryz.ntmps31
    go_wp2_with fail
    refine (iIsOrder_any _ _ _ _ _ hn hx1).mono ?_
    rw [HR.out]
    rintro e w1 ⟨rfl, hb1⟩
    have A1 : Box2 w1 w.heap.size (.int .i64 (xs.length : Int)) (.slice a xs.length cap) := (Box2.new w _ _ _).below hb1
    have bw1 : Below w.heap.size w w1 := Below.trans (by repeat (first | exact Below.refl _ _ | assumption | refine Below.alloc ?_ (by first | exact Nat.le_refl _ | (simp only [World.size_alloc, World.size_setCell, World.size_drew]; omega) | omega) _ | refine Below.setCell ?_ (by first | exact Nat.le_refl _ | (simp only [World.size_alloc, World.size_setCell, World.size_drew]; omega) | omega) _ | refine Below.drew ?_)) (hb1.mono (by first | (simp only [World.size_alloc, World.size_setCell, World.size_drew]; omega) | omega))
    have ⟨zA, cA, dA⟩ := A1
    clear hb1
    go_wp2_with fail
    refine (belowSets_any _ _ _ _ _ (hx.below bw1) hp).mono ?_
    rintro e w2 ⟨a2, cap2, rfl, ho2, hb2⟩
    have A2 := A1.below hb2
    have bw2 := bw1.trans (hb2.mono bw1.size)
    have UB := ho2.cut (Nat.le_refl _)
    clear zA cA dA A1 hb2
    have ⟨zA, cA, dA⟩ := A2
    go_wp2_with (at_make; refine wpList_make_own _ rfl _ _ 24 rfl w2.heap.size 3 i0 (.int .i64 0) 1 Tryz.underlying24 hi hz0 hz1 .i64 .i64 _ xs.length rfl rfl rfl (by rw [hz2]; omega) (by unfold maxLen; omega) (Nat.le_refl _) ?_; intro w3 hown hgrow; have A3 := A2.kept hgrow (by simp); have ⟨zA3, cA3, dA3⟩ := A3; have ho3 := ho2.kept hgrow (Classical.em _))
    have bw3 : Below w.heap.size w w3 := bw2.trans (below_grown_none hgrow bw2.size)
    have hU2 : w2.heap.size ≤ w3.heap.size := hgrow.size
    clear cA dA hgrow
    have HB : OwnI w3 w1.heap.size (.slice a2 xs.length cap2) (belows xs xs.length) := ho3
    clear ho3 ho2
    have hown3 : OwnI w3 w2.heap.size (.slice (some ⟨w2.heap.size, 0, none⟩) 0 xs.length) (firsts xs 0) := hown
    clear hown
    go_wp2_with fail
    go_loopw [5, 6, 18] (fun l p i wr => ∃ (k : Nat) (v : Value), k ≤ xs.length ∧ i = .int .i64 k ∧ p = .int .i64 (fset xs k) ∧ l = v ∧ OwnI wr w2.heap.size v (firsts xs k) ∧ OwnI wr w1.heap.size (.slice a2 xs.length cap2) (belows xs xs.length) ∧ Below w.heap.size w wr ∧ w2.heap.size ≤ wr.heap.size ∧ Box2 wr w.heap.size (.int .i64 (xs.length : Int)) (.slice a xs.length cap)) (fun _ _ i _ => xs.length - (intOf i).toNat)
    case atStart => exact ⟨0, _, Nat.zero_le _, rfl, rfl, rfl, hown3, HB, bw3, hU2, A3⟩
    case round =>
      obtain ⟨k, v, hk, rfl, rfl, rfl, hown, hbel, hb, hsz, hA⟩ := hrel
      have ⟨zr, cr, dr⟩ := hA
      obtain ⟨av, capv, rfl⟩ := hown.form
      simp only [firsts_len] at hown ⊢
      by_cases hlt : k < xs.length
      · have ⟨hc, hs⟩ := fset_card HR.out k (by omega)
        have ⟨hx0, hx1, hx2⟩ := nxt_ok (first_ex HR.out (S := fset xs k) (by omega))
        have hs10 : fset xs k < 2 ^ 10 := Nat.lt_of_lt_of_le hs (Nat.pow_le_pow_right (by omega) hl10)
        have s0 : (0 : Int) ≤ ((fset xs k : Nat) : Int) := by omega
        have s1 : ((fset xs k : Nat) : Int) ≤ 9223372036854775807 := by omega
        have HX1 := Lib.hid hx1
        have HX2 := Lib.hid hx2
        have HS10 := Lib.hid hs10
        clear hc hs hx1 hx2 hs10
        go_wp2_with fail
        go_loop [7] (fun m' => ∃ m : Nat, m ≤ nxt xs (fset xs k) ∧ m' = .int .i64 m) (fun m' => nxt xs (fset xs k) - (intOf m').toNat)
        case atStart => exact ⟨0, Nat.zero_le _, rfl⟩
        case round =>
          obtain ⟨m, hm, rfl⟩ := hrel
          have hml : m < xs.length := by omega
          obtain ⟨b, off, rfl, hbl, hc⟩ := hbel.rd.cell m (by rw [belows_len]; exact hml)
          have hbm : nth (belows xs xs.length) m = ((belowTo xs (m : Int) xs.length : Nat) : Int) := fmap_nth _ hml
          rw [hbm] at hc
          have hsb := sub_nat (belowTo xs (m : Int) xs.length) (fset xs k) (by have := belowTo_small xs (m : Int) hl10; omega) (by have := HS10.out; omega)
          have m0 : (0 : Int) ≤ (m : Int) := by omega
          have m1 : (m : Int) < (xs.length : Int) := by omega
          have m2 : (m : Int) < 10 := by omega
          cases hin : hasB ((fset xs k : Nat) : Int) (m : Int)
          · by_cases hz : sub (belowTo xs (m : Int) xs.length) (fset xs k) = 0
            · have hd : (bits .andNot .i64 ((belowTo xs (m : Int) xs.length : Nat) : Int) ((fset xs k : Nat) : Int) != 0) = false := by rw [hsb, hz]; rfl
              have hmx : nxt xs (fset xs k) = m := nxt_eq hml (firstOk_iff.2 ⟨hin, hz⟩) (fun j hj => HX2.out j (by omega))
              have HMX := Lib.hid hmx
              have hor := or_bit (b := fset xs k) (k := m) (by have := HS10.out; omega) (by omega)
              have HO := Lib.hid hor
              clear hz hsb hmx hor hbm
              go_wp2_with fail
              refine (hasElement_any _ _ _ s0 s1 m0).mono ?_
              rintro e w' ⟨rfl, rfl⟩
              go_wp2_with (at_builtin; refine wpList_append_own _ rfl _ _ 24 rfl w2.heap.size 3 i0 (.int .i64 0) 1 8 Tryz.underlying24 hi hz0 hz1 hz2 rfl (by decide) (.slice av k capv) k ((firsts xs k).map (Value.int .i64)) rfl (by have h := hown.alloc (.cells #[.int .i64 (m : Int)] 3); unfold OwnI at h; rw [firsts_len] at h; exact h) ⟨wr.heap.size, 0, none⟩ 1 1 [.int .i64 (m : Int)] rfl rfl (cell_one_new _ _ _) (by intro u hu; simp at hu; subst hu; rfl) (by unfold maxLen; omega) (by omega) (by simp; omega) ?_)
              intro v' w5 hown5 hgrow _
              have hg2 := grown_alloc_set hgrow
              have o5 : OwnI w5 w2.heap.size v' (firsts xs (k + 1)) := by
                unfold OwnI
                rw [firsts_len, show firsts xs (k + 1) = firsts xs k ++ [((m : Nat) : Int)] from (by show firsts xs k ++ [((nxt xs (fset xs k) : Nat) : Int)] = _; rw [HMX.out]), List.map_append]
                exact hown5
              have hU := hown.lt
              have A5 := hA.kept hg2 (ne_own (fun c e => by have := hU c e; have := zA; omega))
              have B5 := hbel.kept hg2 (own_ne (fun c e e2 => by have h1 := UB c e; have h2 := hU c e2; omega))
              have bw5 := hb.trans (below_of_grown hg2 (fun c e => by have := hU c e; have := bw2.size; omega) hb.size)
              have hz5 : w2.heap.size ≤ w5.heap.size := Nat.le_trans hsz hg2.size
              clear hown5 hgrow hU
              go_wp2_with fail
              go_roundw
              case rel => exact ⟨k + 1, _, by omega, by go_num, val_int (by rw [HO.out, fset_next, HMX.out]), rfl, o5, B5, bw5, hz5, A5⟩
              case measure => simp [intOf]; omega
            · have hd : (bits .andNot .i64 ((belowTo xs (m : Int) xs.length : Nat) : Int) ((fset xs k : Nat) : Int) != 0) = true := by rw [hsb, bne_iff_ne]; omega
              have hmx : m < nxt xs (fset xs k) := by
                rcases Nat.lt_or_ge m (nxt xs (fset xs k)) with h | h
                · exact h
                · have e : m = nxt xs (fset xs k) := by omega
                  exact absurd (firstOk_iff.1 (e ▸ HX1.out)).2 hz
              clear hz hsb hbm
              go_wp2_with fail
              refine (hasElement_any _ _ _ s0 s1 m0).mono ?_
              rintro e w' ⟨rfl, rfl⟩
              go_wp2_with fail
              go_round
              case rel => exact ⟨m + 1, by omega, by go_num⟩
              case measure => simp [intOf]; omega
          · have hmx : m < nxt xs (fset xs k) := by
              rcases Nat.lt_or_ge m (nxt xs (fset xs k)) with h | h
              · exact h
              · have e : m = nxt xs (fset xs k) := by omega
                have h2 := (firstOk_iff.1 (e ▸ HX1.out)).1
                have h3 : (fset xs k).testBit m = true := hin
                rw [h2] at h3
                cases h3
            clear hsb hbm
            go_wp2_with fail
            refine (hasElement_any _ _ _ s0 s1 m0).mono ?_
            rintro e w' ⟨rfl, rfl⟩
            go_wp2_with fail
            go_round
            case rel => exact ⟨m + 1, by omega, by go_num⟩
            case measure => simp [intOf]; omega
      · obtain rfl : k = xs.length := by omega
        go_wp2_with fail
        refine bodyPost_ret (v := .tuple #[.slice av xs.length capv, .bool true]) (by simp [results, Tryz.results31, go_sem]) rfl ?_
        exact ⟨av, capv, by rw [H2.out, firsts_len], by rw [H2.out, firsts_len]; exact hown.mono bw2.size, hb⟩

/-- the row behind k rounds: what the names of the first k elements have -/
def renRow (xs es : List Int) (k : Nat) : List Int := fmap (fun a => if pl es a < k then renE xs es a else 0) es.length
theorem renRow_len (xs es : List Int) (k : Nat) : (renRow xs es k).length = es.length := fmap_len _ _
theorem nth_ext {xs ys : List Int} (hl : xs.length = ys.length) (h : ∀ i, i < xs.length → nth xs i = nth ys i) : xs = ys := by
  apply List.ext_getElem hl
  intro i h1 h2
  have := h i h1
  rwa [nth_get xs i h1, nth_get ys i h2] at this
theorem renRow_zero {n : Int} {xs es : List Int} (h : permB n es = true) {k x : Nat} (hk : k < es.length) (e : nth es k = (x : Int)) : (renRow xs es k).set x 0 = renRow xs es k := by
  have hx : x < es.length := by
    have := okN_elem ((permB_iff.1 h).2 k hk)
    have := (permB_iff.1 h).1
    omega
  apply nth_ext (by simp)
  intro i hi
  rw [List.length_set, renRow_len] at hi
  rw [nth_set (by rw [renRow_len]; exact hx)]
  split
  · rename_i hxi
    subst hxi
    rw [renRow, fmap_nth _ hi, pl_nth h hk e, if_neg (by omega)]
  · rfl
theorem renRow_next {n : Int} {xs es : List Int} (h : permB n es = true) {k x : Nat} (hk : k < es.length) (e : nth es k = (x : Int)) :
    (renRow xs es k).set x ((renTo es (nth xs k) es.length : Nat) : Int) = renRow xs es (k + 1) := by
  have hx : x < es.length := by
    have := okN_elem ((permB_iff.1 h).2 k hk)
    have := (permB_iff.1 h).1
    omega
  apply nth_ext (by simp [renRow_len])
  intro i hi
  rw [List.length_set, renRow_len] at hi
  rw [nth_set (by rw [renRow_len]; exact hx)]
  split
  · rename_i hxi
    subst hxi
    rw [renRow, fmap_nth _ hi, pl_nth h hk e, if_pos (by omega), renE, pl_nth h hk e]
  · rename_i hxi
    rw [renRow, fmap_nth _ hi, renRow, fmap_nth _ hi]
    have hne : pl es i ≠ k := by
      intro hp
      have := (pl_spec h hi).2
      rw [hp, e] at this
      exact hxi (by omega)
    have : pl es i < k + 1 ↔ pl es i < k := by omega
    simp only [this]
theorem renRow_end {n : Int} {xs es : List Int} (h : permB n es = true) : renRow xs es es.length = rens xs es := by
  apply nth_ext (by rw [renRow_len, rens, fmap_len])
  intro i hi
  rw [renRow_len] at hi
  rw [renRow, fmap_nth _ hi, rens, fmap_nth _ hi, if_pos (pl_spec h hi).1]
theorem renRow_start (xs es : List Int) : renRow xs es 0 = rowF (fun _ => 0) es.length 0 := by
  apply nth_ext (by rw [renRow_len, rowF_len _ (Nat.zero_le _)])
  intro i hi
  rw [renRow_len] at hi
  rw [renRow, fmap_nth _ hi, if_neg (by omega)]
  simp [rowF, fmap, nth, hi]

theorem isElement_any (n : Int) (a : Option Addr) (len cap : Nat) (i : Int) (w : World) :
    Calls Tryz.prog 46 #[.agg #[.int .i64 n, .slice a len cap], .int .i64 i] w fun e w' => e = .returned (.bool (elemB i n)) ∧ Below w.heap.size w w' := by
  by_cases h0 : 0 ≤ i
  · by_cases h1 : i < n
    · have H := Lib.hid (elemB_iff.2 ⟨h0, h1⟩)
      go_enter Tryz.func46, Tryz.ntmps46
      go_wp2
      go_ret
      exact ⟨ret_bool (by rw [H.out]; try simp [h1]), (by repeat (first | exact Below.refl _ _ | assumption | refine Below.alloc ?_ (by first | exact Nat.le_refl _ | (simp only [World.size_alloc, World.size_setCell, World.size_drew]; omega) | omega) _ | refine Below.setCell ?_ (by first | exact Nat.le_refl _ | (simp only [World.size_alloc, World.size_setCell, World.size_drew]; omega) | omega) _ | refine Below.drew ?_))⟩
    · have H := Lib.hid (elemB_no.2 (.inr (show n ≤ i by omega)))
      go_enter Tryz.func46, Tryz.ntmps46
      go_wp2
      go_ret
      exact ⟨ret_bool (by rw [H.out]; try simp [h1]), (by repeat (first | exact Below.refl _ _ | assumption | refine Below.alloc ?_ (by first | exact Nat.le_refl _ | (simp only [World.size_alloc, World.size_setCell, World.size_drew]; omega) | omega) _ | refine Below.setCell ?_ (by first | exact Nat.le_refl _ | (simp only [World.size_alloc, World.size_setCell, World.size_drew]; omega) | omega) _ | refine Below.drew ?_))⟩
  · have H := Lib.hid (elemB_no (n := n).2 (.inl (show i < 0 by omega)))
    go_enter Tryz.func46, Tryz.ntmps46
    go_wp2
    go_ret
    exact ⟨ret_bool (by rw [H.out]), (by repeat (first | exact Below.refl _ _ | assumption | refine Below.alloc ?_ (by first | exact Nat.le_refl _ | (simp only [World.size_alloc, World.size_setCell, World.size_drew]; omega) | omega) _ | refine Below.setCell ?_ (by first | exact Nat.le_refl _ | (simp only [World.size_alloc, World.size_setCell, World.size_drew]; omega) | omega) _ | refine Below.drew ?_))⟩

/-- has a list only elements, and none twice? -/
def difB (n : Int) (es : List Int) : Bool := (List.range es.length).all (okN n es)
theorem difB_iff {n : Int} {es : List Int} : difB n es = true ↔ ∀ k, k < es.length → okN n es k = true := by simp [difB]
theorem difB_no {n : Int} {es : List Int} {k : Nat} (hk : k < es.length) (h : okN n es k = false) : difB n es = false := by
  rw [← Bool.not_eq_true, difB_iff]
  intro h2
  rw [h2 k hk] at h
  cases h
theorem areDiff_any (n : Int) (a : Option Addr) (len cap : Nat) (a1 : Option Addr) (es : List Int) (cap1 : Nat) (w : World) (h0 : 0 ≤ n) (h1 : n ≤ 10) (hx : Rd w a1 es) :
    Calls Tryz.prog 95 #[.agg #[.int .i64 n, .slice a len cap], .slice a1 es.length cap1] w fun e w' => e = .returned (.bool (difB n es)) ∧ Below w.heap.size w w' := by
  have hlen := hx.len
  go_enter Tryz.func95, Tryz.ntmps95
  go_wp2_with fail
  go_loopw [5, 10] (fun s i wr => ∃ k : Nat, k ≤ es.length ∧ i = .int .i64 k ∧ s = .int .i64 (setTo es k) ∧ (∀ j, j < k → okN n es j = true) ∧ Below w.heap.size w wr ∧ Box2 wr w.heap.size (.int .i64 n) (.slice a len cap)) (fun _ i _ => es.length - (intOf i).toNat)
  case atStart => exact ⟨0, Nat.zero_le _, rfl, rfl, fun j hj => by omega, (by repeat (first | exact Below.refl _ _ | assumption | refine Below.alloc ?_ (by first | exact Nat.le_refl _ | (simp only [World.size_alloc, World.size_setCell, World.size_drew]; omega) | omega) _ | refine Below.setCell ?_ (by first | exact Nat.le_refl _ | (simp only [World.size_alloc, World.size_setCell, World.size_drew]; omega) | omega) _ | refine Below.drew ?_)), Box2.new _ _ _ _⟩
  case round =>
    obtain ⟨k, hk, rfl, rfl, hall, hb, hB⟩ := hrel
    have HA := Lib.hid hall
    have ⟨zB, cB, dB⟩ := hB
    by_cases hlt : k < es.length
    · obtain ⟨b, off, rfl, hbl, hc⟩ := (hx.below hb).cell k hlt
      cases hel : elemB (nth es k) n
      · have HN := Lib.hid (difB_no (n := n) hlt (show okN n es k = false by simp [okN, hel]))
        clear hall
        go_wp2_with fail
        refine (isElement_any _ _ _ _ _ _).mono ?_
        rintro e w2 ⟨rfl, hb2⟩
        go_wp2_with fail
        go_ret
        exact ⟨ret_bool HN.out.symm, hb.trans (hb2.mono hb.size)⟩
      · have ⟨e0, e1⟩ := elemB_iff.1 hel
        have hs : setTo es k < 2 ^ 10 := setTo_lt k (fun i hi => by have := okN_elem (hall i hi); omega)
        have hs0 : (0 : Int) ≤ ((setTo es k : Nat) : Int) := by omega
        have hs1 : ((setTo es k : Nat) : Int) ≤ 9223372036854775807 := by omega
        cases hin : hasB ((setTo es k : Nat) : Int) (nth es k)
        · have hyes : okN n es k = true := by
            simp only [okN, hel, Bool.true_and]
            simp only [hasB, Int.toNat_natCast] at hin
            rw [hin]; rfl
          have HN := Lib.hid hyes
          obtain ⟨x, hx'⟩ := Int.eq_ofNat_of_zero_le e0
          have hor := or_bit (b := setTo es k) (k := x) (by omega) (by omega)
          have HO := Lib.hid hor
          have HX := Lib.hid hx'
          rw [hx'] at hc hel hin
          have hx0 : (0 : Int) ≤ (x : Int) := by omega
          have hx1 : (x : Int) < 10 := by omega
          clear hall hor hs hx' hyes e0 e1
          go_wp2_with fail
          refine (isElement_any _ _ _ _ _ _).mono ?_
          rintro e w2 ⟨rfl, hb2⟩
          go_wp2_with fail
          refine (hasElement_any _ _ _ hs0 hs1 hx0).mono ?_
          rintro e w' ⟨rfl, rfl⟩
          go_wp2_with fail
          go_roundw
          case rel =>
            refine ⟨k + 1, by omega, by go_num, val_int (by rw [HO.out, setTo, HX.out]; rfl), fun j hj => ?_, hb.trans (hb2.mono hb.size), hB.below hb2⟩
            by_cases e : j = k
            · rw [e]; exact HN.out
            · exact HA.out j (by omega)
          case measure => simp [intOf]; omega
        · have hno : okN n es k = false := by
            simp only [okN, hel, Bool.true_and]
            simp only [hasB, Int.toNat_natCast] at hin
            rw [hin]; rfl
          have HN := Lib.hid (difB_no (n := n) hlt hno)
          clear hall hs hno
          go_wp2_with fail
          refine (isElement_any _ _ _ _ _ _).mono ?_
          rintro e w2 ⟨rfl, hb2⟩
          go_wp2_with fail
          refine (hasElement_any _ _ _ hs0 hs1 e0).mono ?_
          rintro e w' ⟨rfl, rfl⟩
          go_wp2_with fail
          go_ret
          exact ⟨ret_bool HN.out.symm, hb.trans (hb2.mono hb.size)⟩
    · obtain rfl : k = es.length := by omega
      have HN := Lib.hid (difB_iff.2 HA.out)
      clear hall
      go_wp2_with fail
      go_ret
      exact ⟨ret_bool HN.out.symm, hb⟩

theorem hasEachOnce_any (n : Int) (a : Option Addr) (len cap : Nat) (a1 : Option Addr) (es : List Int) (cap1 : Nat) (w : World) (h0 : 0 ≤ n) (h1 : n ≤ 10) (hx : Rd w a1 es) :
    Calls Tryz.prog 61 #[.agg #[.int .i64 n, .slice a len cap], .slice a1 es.length cap1] w fun e w' => e = .returned (.bool (permB n es)) ∧ Below w.heap.size w w' := by
  by_cases hl : (es.length : Int) = n
  · have hl' : ((es.length : Int) == n) = true := by simp [hl]
    have HN : Hid (permB n es = difB n es) := by simp [Hid, permB, difB, hl]
    clear hl
    go_enter Tryz.func61, Tryz.ntmps61
    go_wp2_with fail
    refine (areDiff_any _ _ _ _ _ _ _ _ h0 h1 (hx.below (by repeat (first | exact Below.refl _ _ | assumption | refine Below.alloc ?_ (by first | exact Nat.le_refl _ | (simp only [World.size_alloc, World.size_setCell, World.size_drew]; omega) | omega) _ | refine Below.setCell ?_ (by first | exact Nat.le_refl _ | (simp only [World.size_alloc, World.size_setCell, World.size_drew]; omega) | omega) _ | refine Below.drew ?_)))).mono ?_
    rintro e w2 ⟨rfl, hb2⟩
    go_wp2_with fail
    go_ret
    exact ⟨ret_bool HN.out.symm, Below.trans (by repeat (first | exact Below.refl _ _ | assumption | refine Below.alloc ?_ (by first | exact Nat.le_refl _ | (simp only [World.size_alloc, World.size_setCell, World.size_drew]; omega) | omega) _ | refine Below.setCell ?_ (by first | exact Nat.le_refl _ | (simp only [World.size_alloc, World.size_setCell, World.size_drew]; omega) | omega) _ | refine Below.drew ?_)) (hb2.mono (by first | (simp only [World.size_alloc, World.size_setCell, World.size_drew]; omega) | omega))⟩
  · have hl' : ((es.length : Int) == n) = false := by simp [hl]
    have HN : Hid (permB n es = false) := by simp [Hid, permB, hl]
    clear hl
    go_enter Tryz.func61, Tryz.ntmps61
    go_wp2_with fail
    go_ret
    exact ⟨ret_bool HN.out.symm, (by repeat (first | exact Below.refl _ _ | assumption | refine Below.alloc ?_ (by first | exact Nat.le_refl _ | (simp only [World.size_alloc, World.size_setCell, World.size_drew]; omega) | omega) _ | refine Below.setCell ?_ (by first | exact Nat.le_refl _ | (simp only [World.size_alloc, World.size_setCell, World.size_drew]; omega) | omega) _ | refine Below.drew ?_))⟩

theorem iRenameOf_any (n : Int) (a : Option Addr) (xs : List Int) (cap : Nat) (a1 : Option Addr) (es : List Int) (cap1 : Nat) (w : World) (hn : -9223372036854775808 ≤ n ∧ n ≤ 9223372036854775807) (hx : Rd w a xs) (hy : Rd w a1 es) :
    Calls Tryz.prog 32 #[.agg #[.int .i64 n, .slice a xs.length cap], .slice a1 es.length cap1] w (GotO w (renN n xs es) (renL n xs es) (okR n xs es)) := by
  have hx1 := (hx.alloc (.cells #[.int .i64 n, .slice a xs.length cap] 31)).alloc (.cells #[.int .i64 0, .slice none 0 0] 31)
  obtain ⟨i0, hi, hz0, hz1, hz2⟩ := info_parts infoInt
  cases hr : relB n xs
  · have H0 : Hid (okR n xs es = false) := by simp [Hid, okR, hr]
    have H1 : Hid (renN n xs es = 0) := by simp [Hid, renN, H0.out]
    have H2 : Hid (renL n xs es = []) := by simp [Hid, renL, H0.out]
    go_enter Tryz.func32, Tryz.ntmps32
    go_wp2_with fail
    refine (iIsRelation_any _ _ _ _ _ hn hx1).mono ?_
    rintro e w1 ⟨rfl, hb1⟩
    have hz := hb1.size
    simp only [World.size_alloc] at hz
    obtain ⟨hc, hf⟩ := bcell hb1
    have bw1 : Below w.heap.size w w1 := Below.trans (by repeat (first | exact Below.refl _ _ | assumption | refine Below.alloc ?_ (by first | exact Nat.le_refl _ | (simp only [World.size_alloc, World.size_setCell, World.size_drew]; omega) | omega) _ | refine Below.setCell ?_ (by first | exact Nat.le_refl _ | (simp only [World.size_alloc, World.size_setCell, World.size_drew]; omega) | omega) _ | refine Below.drew ?_)) (hb1.mono (by first | (simp only [World.size_alloc, World.size_setCell, World.size_drew]; omega) | omega))
    go_wp2_with fail
    refine bodyPost_ret (v := .tuple #[.agg #[.int .i64 0, .slice none 0 0], .bool false]) (by simp [results, Tryz.results32, go_sem, hc]) rfl ?_
    refine ⟨none, 0, ?_, ?_, ?_⟩
    · rw [H0.out, H1.out, H2.out]; rfl
    · rw [H2.out]; exact OwnI.nil _ _
    · exact (bw1.setCell (by simp) _).setCell (by simp) _
  · have hp := relB_p hr
    have hn0 := hp.n0
    have hn1 := hp.n1
    cases hpm : permB n es
    · have H0 : Hid (okR n xs es = false) := by simp [Hid, okR, hpm]
      have H1 : Hid (renN n xs es = 0) := by simp [Hid, renN, H0.out]
      have H2 : Hid (renL n xs es = []) := by simp [Hid, renL, H0.out]
      go_enter Tryz.func32, Tryz.ntmps32
      go_wp2_with fail
      refine (iIsRelation_any _ _ _ _ _ hn hx1).mono ?_
      rintro e w1 ⟨rfl, hb1⟩
      have A1 : Box2 w1 w.heap.size (.int .i64 n) (.slice a xs.length cap) := ((Box2.new w _ _ _).below ((Below.refl _ _).alloc (Nat.le_refl _) _)).below hb1
      have R1 : Var2 w1 (w.heap.size + 1) (.int .i64 0) (.slice none 0 0) := by
        have := (Var2.new (w.alloc (.cells #[.int .i64 n, .slice a xs.length cap] 31)) (.int .i64 0) (.slice none 0 0) 31).below hb1
        simpa using this
      have ⟨zA, cA, dA⟩ := A1
      have bw1 : Below w.heap.size w w1 := Below.trans (by repeat (first | exact Below.refl _ _ | assumption | refine Below.alloc ?_ (by first | exact Nat.le_refl _ | (simp only [World.size_alloc, World.size_setCell, World.size_drew]; omega) | omega) _ | refine Below.setCell ?_ (by first | exact Nat.le_refl _ | (simp only [World.size_alloc, World.size_setCell, World.size_drew]; omega) | omega) _ | refine Below.drew ?_)) (hb1.mono (by first | (simp only [World.size_alloc, World.size_setCell, World.size_drew]; omega) | omega))
      clear hb1
      go_wp2_with fail
      refine (hasEachOnce_any _ _ _ _ _ _ _ _ hn0 hn1 (hy.below bw1)).mono ?_
      rintro e w2 ⟨rfl, hb2⟩
      have R2 := R1.below hb2
      have ⟨⟨zR, cR, dR⟩, fR, gR⟩ := R2
      have bw2 := bw1.trans (hb2.mono bw1.size)
      go_wp2_with fail
      have R3 := R2.set (.int .i64 0) (.slice none 0 0)
      refine bodyPost_ret (v := .tuple #[.agg #[.int .i64 0, .slice none 0 0], .bool false]) (by have ⟨⟨_, q1, q2⟩, _, _⟩ := R3; simp [results, Tryz.results32, go_sem, q1, q2]) rfl ?_
      refine ⟨none, 0, ?_, ?_, ?_⟩
      · rw [H0.out, H1.out, H2.out]; rfl
      · rw [H2.out]; exact OwnI.nil _ _
      · exact (bw2.setCell (by simp) _).setCell (by simp) _
    · have H0 : Hid (okR n xs es = true) := by simp [Hid, okR, hr, hpm]
      have H1 : Hid (renN n xs es = n) := by simp [Hid, renN, H0.out]
      have H2 : Hid (renL n xs es = rens xs es) := by simp [Hid, renL, H0.out]
      have hle : (es.length : Int) = n := (permB_iff.1 hpm).1
      have hlx : (xs.length : Int) = n := hp.len
      obtain rfl : n = (es.length : Int) := hle.symm
      have hll : xs.length = es.length := by omega
      have HLL := Lib.hid hll
      have hl10 : es.length ≤ 10 := by omega
      have hl10x : xs.length ≤ 10 := by omega
      have hxe : ∀ k, k < xs.length → k < es.length := fun k hk => by omega
      have hex : ∀ k, k < es.length → k < xs.length := fun k hk => by omega
      have HXE := Lib.hid hxe
      have HEX := Lib.hid hex
      have HPM := Lib.hid hpm
      clear hle hlx hll hxe hex
      go_enter Tryz.func32, Tryz.ntmps32
      go_wp2_with fail
      refine (iIsRelation_any _ _ _ _ _ hn hx1).mono ?_
      rintro e w1 ⟨rfl, hb1⟩
      have A1 : Box2 w1 w.heap.size (.int .i64 (es.length : Int)) (.slice a xs.length cap) := ((Box2.new w _ _ _).below ((Below.refl _ _).alloc (Nat.le_refl _) _)).below hb1
      have R1 : Var2 w1 (w.heap.size + 1) (.int .i64 0) (.slice none 0 0) := by
        have := (Var2.new (w.alloc (.cells #[.int .i64 (es.length : Int), .slice a xs.length cap] 31)) (.int .i64 0) (.slice none 0 0) 31).below hb1
        simpa using this
      have ⟨zA, cA, dA⟩ := A1
      have bw1 : Below w.heap.size w w1 := Below.trans (by repeat (first | exact Below.refl _ _ | assumption | refine Below.alloc ?_ (by first | exact Nat.le_refl _ | (simp only [World.size_alloc, World.size_setCell, World.size_drew]; omega) | omega) _ | refine Below.setCell ?_ (by first | exact Nat.le_refl _ | (simp only [World.size_alloc, World.size_setCell, World.size_drew]; omega) | omega) _ | refine Below.drew ?_)) (hb1.mono (by first | (simp only [World.size_alloc, World.size_setCell, World.size_drew]; omega) | omega))
      clear hb1
      go_wp2_with fail
      refine (hasEachOnce_any _ _ _ _ _ _ _ _ hn0 hn1 (hy.below bw1)).mono ?_
      rintro e w2 ⟨rfl, hb2⟩
      have A2 := A1.below hb2
      have R2 := R1.below hb2
      have bw2 := bw1.trans (hb2.mono bw1.size)
      have hz2' : w.heap.size + 2 ≤ w2.heap.size := by have := R2.1.1; omega
      have ⟨zA2, cA2, dA2⟩ := A2
      clear A1 R1 cA dA hb2
      go_wp2_with (at_make; refine wpList_make_full _ rfl (.tmp 22) (.tmp 22) 24 rfl (w.heap.size + 2) 3 i0 (.int .i64 0) 1 Tryz.underlying24 hi hz0 hz1 .i64 .i64 _ _ es.length rfl rfl rfl rfl (by rw [hz2]; omega) (by unfold maxLen; omega) hz2' ?_; intro w3 hown hgrow; have A3 := A2.kept hgrow (by simp); have ⟨zA3, cA3, dA3⟩ := A3)
      have R3 := R2.kept hgrow (by simp)
      have bw3 : Below w.heap.size w w3 := bw2.grown hgrow bw2.size (fun k h => by cases h)
      have hown0 := made_row (fun _ => 0) hown
      rw [← renRow_start xs es] at hown0
      obtain ⟨g, hg⟩ : ∃ g, g = w2.heap.size := ⟨_, rfl⟩
      rw [← hg] at hown0 ⊢
      have hgz : w.heap.size + 2 ≤ g := by omega
      clear hown hgrow A2 R2 hg cA2 dA2
      go_wp2_with fail
      clear hr hpm
      go_loopw [27] (fun i wr => ∃ k : Nat, k ≤ xs.length ∧ i = .int .i64 k ∧ OwnI wr (w.heap.size + 2) (.slice (some ⟨g, 0, none⟩) es.length es.length) (renRow xs es k) ∧ Below w.heap.size w wr ∧ Box2 wr w.heap.size (.int .i64 (es.length : Int)) (.slice a xs.length cap) ∧ Var2 wr (w.heap.size + 1) (.int .i64 0) (.slice none 0 0)) (fun i _ => xs.length - (intOf i).toNat)
      case atStart => exact ⟨0, Nat.zero_le _, rfl, hown0, bw3, A3, R3⟩
      case round =>
        obtain ⟨k, hk, rfl, hown, hb, hA, hR⟩ := hrel
        by_cases hlt : k < xs.length
        · have hlt' := HXE.out k hlt
          obtain ⟨b1, off1, rfl, hbl1, hc1⟩ := (hx.below hb).cell k hlt
          obtain ⟨y, hye⟩ := Int.eq_ofNat_of_zero_le (okN_elem ((permB_iff.1 HPM.out).2 k hlt')).1
          have hyl : y < es.length := by have := (okN_elem ((permB_iff.1 HPM.out).2 k hlt')).2; omega
          have HE := Lib.hid hye
          have s0 := hp.pos k hlt
          have s1 := hp.small k hlt
          have s2 : nth xs k ≤ 9223372036854775807 := by omega
          clear hye
          go_wp2_with fail
          go_loopw [34] (fun i' wi => ∃ j : Nat, j ≤ es.length ∧ i' = .int .i64 j ∧ OwnI wi (w.heap.size + 2) (.slice (some ⟨g, 0, none⟩) es.length es.length) ((renRow xs es k).set y ((renTo es (nth xs k) j : Nat) : Int)) ∧ Below w.heap.size w wi ∧ Box2 wi w.heap.size (.int .i64 (es.length : Int)) (.slice (some ⟨b1, off1, none⟩) xs.length cap) ∧ Var2 wi (w.heap.size + 1) (.int .i64 0) (.slice none 0 0)) (fun i _ => es.length - (intOf i).toNat)
          case atStart => exact ⟨0, Nat.zero_le _, rfl, by rw [renTo, show (((0 : Nat) : Nat) : Int) = 0 from rfl, renRow_zero HPM.out hlt' HE.out]; exact hown, hb, hA, hR⟩
          case round =>
            obtain ⟨j, hj, rfl, hown, hb, hA, hR⟩ := hrel
            by_cases hjl : j < es.length
            · obtain ⟨b2, off2, rfl, hbl2, hc2⟩ := (hy.below hb).cell j hjl
              obtain ⟨b3, off3, e3, hbl3, hc3⟩ := (hy.below hb).cell k hlt'
              simp only [Option.some.injEq, Addr.mk.injEq, and_true] at e3
              obtain ⟨rfl, rfl⟩ := e3
              rw [HE.out] at hc3
              obtain ⟨m, hme⟩ := Int.eq_ofNat_of_zero_le (okN_elem ((permB_iff.1 HPM.out).2 j hjl)).1
              have hml : m < es.length := by have := (okN_elem ((permB_iff.1 HPM.out).2 j hjl)).2; omega
              obtain ⟨row, hrow⟩ : ∃ row, row = (renRow xs es k).set y ((renTo es (nth xs k) j : Nat) : Int) := ⟨_, rfl⟩
              have hrl : row.length = es.length := by rw [hrow, List.length_set, renRow_len]
              have hrk : nth row y = ((renTo es (nth xs k) j : Nat) : Int) := by rw [hrow, nth_set (by rw [renRow_len]; exact hyl), if_pos rfl]
              have hrs : ∀ z, row.set y z = (renRow xs es k).set y z := by intro z; rw [hrow, List.set_set]
              rw [← hrow] at hown
              have ⟨ci, fi⟩ := hown.at' hrl.symm (i := y) (by omega)
              rw [hrk] at ci
              have hput := hown.put hrl.symm y ((renTo es (nth xs k) j ||| 2 ^ m : Nat) : Int)
              rw [hrs] at hput
              have hps := renTo_lt HPM.out hn1 (nth xs k) j hj
              have hor := or_bit (b := renTo es (nth xs k) j) (k := m) (by omega) (by omega)
              have HO := Lib.hid hor
              have HP := Lib.hid hput
              have HR := Lib.hid hrow
              have HM := Lib.hid hme
              rw [hme] at hc2
              have k0 : (0 : Int) ≤ (k : Int) := by omega
              have k1 : (k : Int) < (es.length : Int) := by omega
              have y0 : (0 : Int) ≤ (y : Int) := by omega
              have y1 : (y : Int) < (es.length : Int) := by omega
              have j0 : (0 : Int) ≤ (j : Int) := by omega
              have m0 : (0 : Int) ≤ (m : Int) := by omega
              have m1 : (m : Int) < 62 := by omega
              clear hor hps hme hput hrow hrl hrk hrs
              cases hhas : hasB (nth xs k) j
              · go_wp2_with fail
                refine (hasElement_any _ _ _ s0 s2 j0).mono ?_
                rintro e w' ⟨rfl, rfl⟩
                go_wp2_with fail
                go_roundw
                case rel => exact ⟨j + 1, by omega, by go_num, by rw [HR.out] at hown; simpa [renTo, hhas] using hown, hb, hA, hR⟩
                case measure => simp [intOf]; omega
              · go_wp2_with fail
                refine (hasElement_any _ _ _ s0 s2 j0).mono ?_
                rintro e w' ⟨rfl, rfl⟩
                go_wp2_with fail
                go_region
                all_goals
                  go_wp2_with fail
                  go_roundw
                  case rel =>
                    rw [HO.out]
                    refine ⟨j + 1, by omega, by go_num, ?_, (hb.setCell (p := ⟨g, y, none⟩) (show w.heap.size ≤ g by omega) _).drew, hA.set (p := ⟨g, y, none⟩) _ (show w.heap.size ≠ g by omega), hR.other (p := ⟨g, y, none⟩) _ (show w.heap.size + 1 ≠ g by omega)⟩
                    have := HP.out.1
                    simp only [renTo, hhas, if_true, HM.out, Int.toNat_natCast]
                    exact this
                  case measure => simp [intOf]; omega
            · obtain rfl : j = es.length := by omega
              rw [renRow_next HPM.out hlt' HE.out] at hown
              have HN := Lib.hid hown
              clear hown
              go_wp2_with fail
              go_roundw
              case rel => exact ⟨k + 1, by omega, by go_num, HN.out, hb, hA, hR⟩
              case measure => simp [intOf]; omega
        · obtain rfl : k = xs.length := by omega
          have ⟨⟨zR, cR, dR⟩, fR, gR⟩ := hR
          have ⟨zA, cA, dA⟩ := hA
          rw [HLL.out, renRow_end HPM.out] at hown
          go_wp2_with fail
          have R3 := hR.set (.int .i64 (es.length : Int)) (.slice (some ⟨g, 0, none⟩) es.length es.length)
          refine bodyPost_ret (v := .tuple #[.agg #[.int .i64 (es.length : Int), .slice (some ⟨g, 0, none⟩) es.length es.length], .bool true]) (by have ⟨⟨_, q1, q2⟩, _, _⟩ := R3; simp [results, Tryz.results32, go_sem, q1, q2]) rfl ?_
          refine ⟨some ⟨g, 0, none⟩, es.length, ?_, ?_, ?_⟩
          · rw [H0.out, H1.out, H2.out, rens, fmap_len]
          · rw [H2.out, rens, fmap_len]
            exact ((hown.setBelow (p := ⟨w.heap.size + 1, 0, none⟩) (show w.heap.size + 1 < w.heap.size + 2 by omega) _).setBelow (p := ⟨w.heap.size + 1, 1, none⟩) (show w.heap.size + 1 < w.heap.size + 2 by omega) _).mono (by omega)
          · exact (hb.setCell (p := ⟨w.heap.size + 1, 0, none⟩) (show w.heap.size ≤ w.heap.size + 1 by omega) _).setCell (p := ⟨w.heap.size + 1, 1, none⟩) (show w.heap.size ≤ w.heap.size + 1 by omega) _

set_option maxRecDepth 100000 in
set_option maxHeartbeats 8000000 in
theorem walk (a0 : Option Addr) (n0 cap0 : Nat) (a1 : Option Addr) (n1 cap1 : Nat) (w : World) (hR0 : RdB w a0 n0) (hl0 : n0 ≤ 9223372036854775807) (hR1 : RdB w a1 n1) (hl1 : n1 ≤ 9223372036854775807) :
    Calls Tryz.prog 5 #[.slice a0 n0 cap0, .slice a1 n1 cap1] w fun e w' => e = .returned (.bool true) ∧ Below w.heap.size w w' := by
  go_enter Tryz.func5, Tryz.ntmps5
  go_wp2_with fail
  refine (big_any _ _ _ _ _ _ _ hl0 hl1).mono ?_
  rintro e w' ⟨he, rfl⟩
  rcases he with rfl | ⟨rfl, hb0, hb1⟩
  · go_wp2_with fail
    go_ret
    exact ⟨rfl, (by repeat (first | exact Below.refl _ _ | assumption | refine Below.alloc ?_ (by first | exact Nat.le_refl _ | (simp only [World.size_alloc, World.size_setCell, World.size_drew]; omega) | omega) _ | refine Below.setCell ?_ (by first | exact Nat.le_refl _ | (simp only [World.size_alloc, World.size_setCell, World.size_drew]; omega) | omega) _ | refine Below.drew ?_))⟩
  · go_wp2_with fail
    refine (drOrdA_any _ _ _ _ hR0 hb0).mono ?_
    rintro e w1 ⟨a, cap, xs, rfl, ho, hl, hx, hb⟩
    have hcp := ho.capLe
    have HB := Lib.hid hb
    have HR := Lib.hid ho.rd
    clear hx ho hb hR0 hR1 hl0 hl1 hb0 hb1
    obtain ⟨P, hP⟩ : ∃ P, P = aoO xs := ⟨_, rfl⟩
    obtain ⟨L, hL⟩ : ∃ L, L = aoL xs := ⟨_, rfl⟩
    obtain ⟨G, hG⟩ : ∃ G, G = agB xs := ⟨_, rfl⟩
    have HIO := Lib.hid (fun W (h : Rd W a xs) => iOrderAsc_any a xs cap W h hcp)
    have HSO := Lib.hid (fun W (h : Rd W a xs) => sOrderAsc_any a xs cap W h hcp)
    unfold GotO at HIO HSO
    rw [← hP, ← hL, ← hG] at HIO HSO
    have HEQ : Hid (∀ (m : Int) (zs : List Int), eqO m zs m zs = true) := fun m zs => eqO_refl m zs
    have HEL : Hid (∀ l : List Int, eqL l l = true) := fun l => by simp [eqL]
    have HPE := Lib.hid hP
    have HLE := Lib.hid hL
    have HGE := Lib.hid hG
    have q1 : (G != G) = false := by simp
    clear hP hL hG
    go_wp2_with fail
    refine (HIO.out _ HR.out).mono ?_
    rintro e w3 ⟨a3, c3, rfl, ho3, hb3⟩
    replace HB := Lib.hid (HB.out.trans (hb3.mono HB.out.size))
    replace HR := Lib.hid (HR.out.below hb3)
    clear hb3
    have HC := Lib.hid ho3.rd
    clear ho3
    have ba3 : Below w3.heap.size w3 (w3.alloc (.cells #[.int .i64 P, .slice a3 L.length c3] 31)) := (Below.refl _ _).alloc (Nat.le_refl _) _
    have HX := Lib.hid (Box2.new w3 (.int .i64 P) (.slice a3 L.length c3) 31)
    replace HB := Lib.hid (HB.out.trans (ba3.mono HB.out.size))
    replace HR := Lib.hid (HR.out.below ba3)
    replace HC := Lib.hid (HC.out.below ba3)
    obtain ⟨v3, hv3⟩ : ∃ x : World, x = w3.alloc (.cells #[.int .i64 P, .slice a3 L.length c3] 31) := ⟨_, rfl⟩
    have HV3 := Lib.hid hv3
    rw [← hv3] at HX HB HR HC
    clear ba3 hv3
    have cX := HX.out.2
    go_wp2_with fail
    rw [← HV3.out]
    clear cX
    have ⟨zX, cX, dX⟩ := HX.out
    refine (HSO.out _ HR.out).mono ?_
    rintro e w4 ⟨a4, c4, rfl, ho4, hb4⟩
    try clear zX cX dX
    replace HB := Lib.hid (HB.out.trans (hb4.mono HB.out.size))
    replace HX := Lib.hid (HX.out.below hb4)
    replace HR := Lib.hid (HR.out.below hb4)
    replace HC := Lib.hid (HC.out.below hb4)
    have ⟨zX, cX, dX⟩ := HX.out
    clear hb4
    have HD := Lib.hid ho4.rd
    clear ho4 HIO HSO
    have ba4 : Below w4.heap.size w4 (w4.alloc (.cells #[.int .i64 P, .slice a4 L.length c4] 31)) := (Below.refl _ _).alloc (Nat.le_refl _) _
    have HY := Lib.hid (Box2.new w4 (.int .i64 P) (.slice a4 L.length c4) 31)
    replace HB := Lib.hid (HB.out.trans (ba4.mono HB.out.size))
    replace HX := Lib.hid (HX.out.below ba4)
    replace HR := Lib.hid (HR.out.below ba4)
    replace HC := Lib.hid (HC.out.below ba4)
    replace HD := Lib.hid (HD.out.below ba4)
    obtain ⟨v4, hv4⟩ : ∃ x : World, x = w4.alloc (.cells #[.int .i64 P, .slice a4 L.length c4] 31) := ⟨_, rfl⟩
    have HV4 := Lib.hid hv4
    rw [← hv4] at HY HB HX HR HC HD
    clear ba4 hv4
    have cY := HY.out.2
    go_wp2_with fail
    rw [← HV4.out]
    try clear zX cX dX
    clear cY
    have ⟨zX, cX, dX⟩ := HX.out
    have ⟨zY, cY, dY⟩ := HY.out
    refine ((pSameO_any P P a3 a4 L L c3 c4 _ HC.out HD.out)).mono ?_
    rw [HEQ.out]
    rintro e w5 ⟨rfl, hb5⟩
    try clear zX cX dX
    try clear zY cY dY
    replace HB := Lib.hid (HB.out.trans (hb5.mono HB.out.size))
    replace HX := Lib.hid (HX.out.below hb5)
    replace HY := Lib.hid (HY.out.below hb5)
    replace HR := Lib.hid (HR.out.below hb5)
    replace HC := Lib.hid (HC.out.below hb5)
    replace HD := Lib.hid (HD.out.below hb5)
    have ⟨zX, cX, dX⟩ := HX.out
    have ⟨zY, cY, dY⟩ := HY.out
    clear hb5
    clear HD HY
    try clear zY cY dY
    cases hGG : G
    · go_wp2_with fail
      go_ret
      exact ⟨rfl, HB.out⟩
    · have hgb : agB xs = true := by rw [← HGE.out]; exact hGG
      have ⟨hA, h10⟩ := agB_iff.1 hgb
      have hcan := ag_canon hA h10
      have e1 : P = (xs.length : Int) := by rw [HPE.out, aoO, if_pos hgb]
      have hll : L.length = xs.length := by rw [HLE.out, aoL, if_pos hgb, ivo_len]
      have hiv : isIv (xs.length : Int) L = true := by rw [HLE.out, aoL, if_pos hgb]; exact ivo_is (ag_good hA h10)
      obtain ⟨M, hM⟩ : ∃ M, M = moK xs xs.length := ⟨_, rfl⟩
      have hmo : moL (xs.length : Int) L = M := by rw [HLE.out, aoL, if_pos hgb, hcan.2.2.1, hM]
      have ⟨m1, m2, m3, m4⟩ := moK_ok hA (Nat.le_refl xs.length)
      have hasl := as_all hA
      have hmoa : moaL xs = M := by rw [moaL, if_pos hA, hM]
      rw [← hM] at m1 m2 hasl
      have hms : M.length + totS M M.length ≤ 1048576 := by rw [← hmoa]; exact moaL_len _
      have htop := top_arcs m1 (by omega)
      have hnN : acN (tmL M) (tmL M).length = xs.length := by omega
      rw [hnN] at htop
      obtain ⟨t1, t2, t3, t4, t5⟩ := htop
      have hnn : -9223372036854775808 ≤ (xs.length : Int) ∧ (xs.length : Int) ≤ 9223372036854775807 := by omega
      have hord := isIv_ord hiv
      have hpm := fst_perm hord
      have hren := ren_mo hiv hpm
      obtain ⟨E, hE⟩ : ∃ E, E = firsts L L.length := ⟨_, rfl⟩
      rw [← hE] at hpm hren
      have hfl : fstL (xs.length : Int) L = E := by rw [fstL, if_pos hord, hE]
      have hok : okR (xs.length : Int) L E = true := by rw [okR, (ordB_iff.1 hord).1, hpm]; rfl
      obtain ⟨Q, hQ⟩ : ∃ Q, Q = rens L E := ⟨_, rfl⟩
      rw [← hQ, hmo] at hren
      have hrl : renL (xs.length : Int) L E = Q := by rw [renL, if_pos hok, hQ]
      have hrn : renN (xs.length : Int) L E = (xs.length : Int) := by rw [renN, if_pos hok]
      have hEl : E.length = xs.length := by rw [hE, firsts_len, hll]
      have hQl : Q.length = xs.length := by rw [hQ, rens, fmap_len, hEl]
      obtain ⟨T, hT⟩ : ∃ T, T = tmL M := ⟨_, rfl⟩
      obtain ⟨A, hAr⟩ : ∃ A, A = aroL T := ⟨_, rfl⟩
      have hTl : T.length ≤ 24 := by rw [hT]; exact mcB_len (tm_mc m1)
      have hna : aroN T = (xs.length : Int) := by rw [hT, aroN, if_pos t1, hnN]
      rw [← hT] at t1 t3 t4 t5
      rw [← hAr] at t3 t4 t5
      subst e1
      have HMO : Hid (∀ W, Rd W a3 L → Calls Tryz.prog 23 #[.agg #[.int .i64 (xs.length : Int), .slice a3 L.length c3]] W fun e w' => ∃ a' c' vl, e = .returned (.tuple #[.agg #[.slice a' M.length c'], .bool true]) ∧ RowsP w' W.heap.size (.slice a' M.length c') vl M ∧ Below W.heap.size W w') := fun W h => by
        have := iMxOrd_any (xs.length : Int) a3 L c3 W hnn h
        rw [hmo, hiv] at this
        exact this
      have HMA : Hid (∀ W, Rd W a xs → Calls Tryz.prog 28 #[.slice a xs.length cap] W fun e w' => ∃ a' c' vl, e = .returned (.tuple #[.agg #[.slice a' M.length c'], .bool true]) ∧ RowsP w' W.heap.size (.slice a' M.length c') vl M ∧ Below W.heap.size W w') := fun W h => by
        have := iMOA_any a xs cap W h hcp
        rw [hmoa, hA] at this
        exact this
      have HMT : Hid (∀ W a' c', RdC W a' M → Calls Tryz.prog 29 #[.agg #[.slice a' M.length c']] W (GotI W T true)) := fun W a' c' h => by
        have := iMtMx_any a' M c' W h hms
        rw [← hT, m1] at this
        exact this
      have HAR : Hid (∀ W a' c', Rd W a' T → Calls Tryz.prog 30 #[.slice a' T.length c'] W fun e w' => ∃ a'' c'', e = .returned (.tuple #[.agg #[.int .i64 (xs.length : Int), .slice a'' A.length c''], .bool true]) ∧ OwnI w' W.heap.size (.slice a'' A.length c'') A ∧ Below W.heap.size W w') := fun W a' c' h => by
        have := iOrdArcs_any a' T c' W h
        unfold GotO at this
        rw [hna, t1, ← hAr] at this
        exact this
      have HAL : Hid (∀ W b' c', Rd W b' A → Rd W a3 L → Calls Tryz.prog 25 #[.agg #[.int .i64 (xs.length : Int), .slice b' A.length c'], .agg #[.int .i64 (xs.length : Int), .slice a3 L.length c3]] W fun e w' => e = .returned (.tuple #[.bool true, .bool true]) ∧ Below W.heap.size W w') := fun W b' c' h h2 => by
        have := iAlike_any (xs.length : Int) b' A c' (xs.length : Int) a3 L c3 W hnn h hnn h2
        have e5 : alkB (xs.length : Int) A (xs.length : Int) L = true := by rw [alkB, t3, hiv]; rfl
        have e6 : eqR M M = true := eqR_iff.2 ⟨rfl, fun k hk => by simp [eqL]⟩
        rw [alkV, e5, t4, hmo, e6] at this
        exact this
      have HAO : Hid (∀ W b' c', Rd W b' A → Calls Tryz.prog 18 #[.agg #[.int .i64 (xs.length : Int), .slice b' A.length c']] W fun e w' => ∃ a'' c'', e = .returned (.tuple #[.slice a'' xs.length c'', .bool true]) ∧ OwnI w' W.heap.size (.slice a'' xs.length c'') xs ∧ Below W.heap.size W w') := fun W b' c' h => by
        have := iAscOrd_any (xs.length : Int) b' A c' W hnn h
        unfold GotI at this
        rw [aooL, t3, if_pos rfl, t4, amL, if_pos m1, hasl] at this
        exact this
      have HFE : Hid (∀ W, Rd W a3 L → Calls Tryz.prog 31 #[.agg #[.int .i64 (xs.length : Int), .slice a3 L.length c3]] W fun e w' => ∃ a' cap', e = .returned (.tuple #[.slice a' E.length cap', .bool true]) ∧ OwnI w' W.heap.size (.slice a' E.length cap') E ∧ Below W.heap.size W w') := fun W h => by
        have := iFirst_any (xs.length : Int) a3 L c3 W hnn h
        rw [hfl, hord] at this
        exact this
      have HRN : Hid (∀ W b' c', Rd W a3 L → Rd W b' E → Calls Tryz.prog 32 #[.agg #[.int .i64 (xs.length : Int), .slice a3 L.length c3], .slice b' E.length c'] W fun e w' => ∃ a'' c'', e = .returned (.tuple #[.agg #[.int .i64 (xs.length : Int), .slice a'' Q.length c''], .bool true]) ∧ OwnI w' W.heap.size (.slice a'' Q.length c'') Q ∧ Below W.heap.size W w') := fun W b' c' h h2 => by
        have := iRenameOf_any (xs.length : Int) a3 L c3 b' E c' W hnn h h2
        unfold GotO at this
        rw [hrl, hrn, hok] at this
        exact this
      have HAQ : Hid (∀ W b' c', Rd W b' Q → Calls Tryz.prog 18 #[.agg #[.int .i64 (xs.length : Int), .slice b' Q.length c']] W fun e w' => ∃ a'' c'', e = .returned (.tuple #[.slice a'' xs.length c'', .bool true]) ∧ OwnI w' W.heap.size (.slice a'' xs.length c'') xs ∧ Below W.heap.size W w') := fun W b' c' h => by
        have := iAscOrd_any (xs.length : Int) b' Q c' W hnn h
        unfold GotI at this
        rw [aooL, hren.1, if_pos rfl, hren.2, amL, if_pos m1, hasl] at this
        exact this
      have hml : M.length ≤ 1048576 := by omega
      have hLl : L.length ≤ 1048576 := by omega
      have hAl : A.length ≤ 1048576 := by omega
      have hEl2 : E.length ≤ 1048576 := by omega
      have hQl2 : Q.length ≤ 1048576 := by omega
      clear hgb hA h10 hcan hll hiv hM hmo m1 m2 m3 m4 hasl hmoa hms hnN t1 t2 t3 t4 t5 hord hpm hren hE hfl hok hQ hrl hrn hEl hQl hT hAr hna HPE HLE HGE hGG q1
      go_wp2_with fail
      refine (HMO.out _ HC.out).mono ?_
      rintro e w6 ⟨a6, c6, l6, rfl, ho6, hb6⟩
      try clear zX cX dX
      replace HB := Lib.hid (HB.out.trans (hb6.mono HB.out.size))
      replace HX := Lib.hid (HX.out.below hb6)
      replace HR := Lib.hid (HR.out.below hb6)
      replace HC := Lib.hid (HC.out.below hb6)
      have ⟨zX, cX, dX⟩ := HX.out
      clear hb6
      have HU := Lib.hid ho6.rdC
      clear ho6 HMO
      have ba6 : Below w6.heap.size w6 (w6.alloc (.cells #[.slice a6 M.length c6] 45)) := (Below.refl _ _).alloc (Nat.le_refl _) _
      have HK := Lib.hid (Box1.new w6 (.slice a6 M.length c6) 45)
      replace HB := Lib.hid (HB.out.trans (ba6.mono HB.out.size))
      replace HX := Lib.hid (HX.out.below ba6)
      replace HR := Lib.hid (HR.out.below ba6)
      replace HC := Lib.hid (HC.out.below ba6)
      replace HU := Lib.hid (HU.out.below ba6)
      obtain ⟨v6, hv6⟩ : ∃ x : World, x = w6.alloc (.cells #[.slice a6 M.length c6] 45) := ⟨_, rfl⟩
      have HV6 := Lib.hid hv6
      rw [← hv6] at HK HB HX HR HC HU
      clear ba6 hv6
      have cK := HK.out.2
      go_wp2_with fail
      rw [← HV6.out]
      try clear zX cX dX
      clear cK
      have ⟨zX, cX, dX⟩ := HX.out
      have ⟨zK, cK⟩ := HK.out
      refine (HMA.out _ HR.out).mono ?_
      rintro e w7 ⟨a7, c7, l7, rfl, ho7, hb7⟩
      try clear zX cX dX
      try clear zK cK
      replace HB := Lib.hid (HB.out.trans (hb7.mono HB.out.size))
      replace HX := Lib.hid (HX.out.below hb7)
      replace HK := Lib.hid (HK.out.below hb7)
      replace HR := Lib.hid (HR.out.below hb7)
      replace HC := Lib.hid (HC.out.below hb7)
      replace HU := Lib.hid (HU.out.below hb7)
      have ⟨zX, cX, dX⟩ := HX.out
      have ⟨zK, cK⟩ := HK.out
      clear hb7
      have HV := Lib.hid ho7.rdC
      clear ho7 HMA
      have ba7 : Below w7.heap.size w7 (w7.alloc (.cells #[.slice a7 M.length c7] 45)) := (Below.refl _ _).alloc (Nat.le_refl _) _
      have HN := Lib.hid (Box1.new w7 (.slice a7 M.length c7) 45)
      replace HB := Lib.hid (HB.out.trans (ba7.mono HB.out.size))
      replace HX := Lib.hid (HX.out.below ba7)
      replace HK := Lib.hid (HK.out.below ba7)
      replace HR := Lib.hid (HR.out.below ba7)
      replace HC := Lib.hid (HC.out.below ba7)
      replace HU := Lib.hid (HU.out.below ba7)
      replace HV := Lib.hid (HV.out.below ba7)
      obtain ⟨v7, hv7⟩ : ∃ x : World, x = w7.alloc (.cells #[.slice a7 M.length c7] 45) := ⟨_, rfl⟩
      have HV7 := Lib.hid hv7
      rw [← hv7] at HN HB HX HK HR HC HU HV
      clear ba7 hv7
      have cN := HN.out.2
      go_wp2_with fail
      rw [← HV7.out]
      try clear zX cX dX
      try clear zK cK
      clear cN
      have ⟨zX, cX, dX⟩ := HX.out
      have ⟨zK, cK⟩ := HK.out
      have ⟨zN, cN⟩ := HN.out
      refine (HMT.out _ _ _ HU.out).mono ?_
      rintro e w8 ⟨a8, c8, rfl, ho8, hb8⟩
      try clear zX cX dX
      try clear zK cK
      try clear zN cN
      replace HB := Lib.hid (HB.out.trans (hb8.mono HB.out.size))
      replace HX := Lib.hid (HX.out.below hb8)
      replace HK := Lib.hid (HK.out.below hb8)
      replace HN := Lib.hid (HN.out.below hb8)
      replace HR := Lib.hid (HR.out.below hb8)
      replace HC := Lib.hid (HC.out.below hb8)
      replace HU := Lib.hid (HU.out.below hb8)
      replace HV := Lib.hid (HV.out.below hb8)
      have ⟨zX, cX, dX⟩ := HX.out
      have ⟨zK, cK⟩ := HK.out
      have ⟨zN, cN⟩ := HN.out
      clear hb8
      have HW := Lib.hid ho8.rd
      clear ho8 HMT
      go_wp2_with fail
      refine (HAR.out _ _ _ HW.out).mono ?_
      rintro e w9 ⟨a9, c9, rfl, ho9, hb9⟩
      try clear zX cX dX
      try clear zK cK
      try clear zN cN
      replace HB := Lib.hid (HB.out.trans (hb9.mono HB.out.size))
      replace HX := Lib.hid (HX.out.below hb9)
      replace HK := Lib.hid (HK.out.below hb9)
      replace HN := Lib.hid (HN.out.below hb9)
      replace HR := Lib.hid (HR.out.below hb9)
      replace HC := Lib.hid (HC.out.below hb9)
      replace HU := Lib.hid (HU.out.below hb9)
      replace HV := Lib.hid (HV.out.below hb9)
      replace HW := Lib.hid (HW.out.below hb9)
      have ⟨zX, cX, dX⟩ := HX.out
      have ⟨zK, cK⟩ := HK.out
      have ⟨zN, cN⟩ := HN.out
      clear hb9
      have HZ := Lib.hid ho9.rd
      clear ho9 HAR HW
      have ba9 : Below w9.heap.size w9 (w9.alloc (.cells #[.int .i64 (xs.length : Int), .slice a9 A.length c9] 31)) := (Below.refl _ _).alloc (Nat.le_refl _) _
      have HO := Lib.hid (Box2.new w9 (.int .i64 (xs.length : Int)) (.slice a9 A.length c9) 31)
      replace HB := Lib.hid (HB.out.trans (ba9.mono HB.out.size))
      replace HX := Lib.hid (HX.out.below ba9)
      replace HK := Lib.hid (HK.out.below ba9)
      replace HN := Lib.hid (HN.out.below ba9)
      replace HR := Lib.hid (HR.out.below ba9)
      replace HC := Lib.hid (HC.out.below ba9)
      replace HU := Lib.hid (HU.out.below ba9)
      replace HV := Lib.hid (HV.out.below ba9)
      replace HZ := Lib.hid (HZ.out.below ba9)
      obtain ⟨v9, hv9⟩ : ∃ x : World, x = w9.alloc (.cells #[.int .i64 (xs.length : Int), .slice a9 A.length c9] 31) := ⟨_, rfl⟩
      have HV9 := Lib.hid hv9
      rw [← hv9] at HO HB HX HK HN HR HC HU HV HZ
      clear ba9 hv9
      have cO := HO.out.2
      go_wp2_with fail
      rw [← HV9.out]
      try clear zX cX dX
      try clear zK cK
      try clear zN cN
      clear cO
      have ⟨zX, cX, dX⟩ := HX.out
      have ⟨zK, cK⟩ := HK.out
      have ⟨zN, cN⟩ := HN.out
      have ⟨zO, cO, dO⟩ := HO.out
      refine (HAL.out _ _ _ HZ.out HC.out).mono ?_
      rintro e w10 ⟨rfl, hb10⟩
      try clear zX cX dX
      try clear zK cK
      try clear zN cN
      try clear zO cO dO
      replace HB := Lib.hid (HB.out.trans (hb10.mono HB.out.size))
      replace HX := Lib.hid (HX.out.below hb10)
      replace HK := Lib.hid (HK.out.below hb10)
      replace HN := Lib.hid (HN.out.below hb10)
      replace HO := Lib.hid (HO.out.below hb10)
      replace HR := Lib.hid (HR.out.below hb10)
      replace HC := Lib.hid (HC.out.below hb10)
      replace HU := Lib.hid (HU.out.below hb10)
      replace HV := Lib.hid (HV.out.below hb10)
      replace HZ := Lib.hid (HZ.out.below hb10)
      have ⟨zX, cX, dX⟩ := HX.out
      have ⟨zK, cK⟩ := HK.out
      have ⟨zN, cN⟩ := HN.out
      have ⟨zO, cO, dO⟩ := HO.out
      clear hb10
      go_wp2_with fail
      refine (HAO.out _ _ _ HZ.out).mono ?_
      rintro e w11 ⟨a11, c11, rfl, ho11, hb11⟩
      try clear zX cX dX
      try clear zK cK
      try clear zN cN
      try clear zO cO dO
      replace HB := Lib.hid (HB.out.trans (hb11.mono HB.out.size))
      replace HX := Lib.hid (HX.out.below hb11)
      replace HK := Lib.hid (HK.out.below hb11)
      replace HN := Lib.hid (HN.out.below hb11)
      replace HO := Lib.hid (HO.out.below hb11)
      replace HR := Lib.hid (HR.out.below hb11)
      replace HC := Lib.hid (HC.out.below hb11)
      replace HU := Lib.hid (HU.out.below hb11)
      replace HV := Lib.hid (HV.out.below hb11)
      replace HZ := Lib.hid (HZ.out.below hb11)
      have ⟨zX, cX, dX⟩ := HX.out
      have ⟨zK, cK⟩ := HK.out
      have ⟨zN, cN⟩ := HN.out
      have ⟨zO, cO, dO⟩ := HO.out
      clear hb11
      have HG := Lib.hid ho11.rd
      clear ho11 HAO HAL HZ HO
      try clear zO cO dO
      go_wp2_with fail
      refine (HFE.out _ HC.out).mono ?_
      rintro e w12 ⟨a12, c12, rfl, ho12, hb12⟩
      try clear zX cX dX
      try clear zK cK
      try clear zN cN
      replace HB := Lib.hid (HB.out.trans (hb12.mono HB.out.size))
      replace HX := Lib.hid (HX.out.below hb12)
      replace HK := Lib.hid (HK.out.below hb12)
      replace HN := Lib.hid (HN.out.below hb12)
      replace HR := Lib.hid (HR.out.below hb12)
      replace HC := Lib.hid (HC.out.below hb12)
      replace HU := Lib.hid (HU.out.below hb12)
      replace HV := Lib.hid (HV.out.below hb12)
      replace HG := Lib.hid (HG.out.below hb12)
      have ⟨zX, cX, dX⟩ := HX.out
      have ⟨zK, cK⟩ := HK.out
      have ⟨zN, cN⟩ := HN.out
      clear hb12
      have HH := Lib.hid ho12.rd
      clear ho12 HFE
      go_wp2_with fail
      refine ((pSameM_same a6 a7 M c6 c7 _ HU.out HV.out hml)).mono ?_
      rintro e w13 ⟨rfl, hb13⟩
      try clear zX cX dX
      try clear zK cK
      try clear zN cN
      replace HB := Lib.hid (HB.out.trans (hb13.mono HB.out.size))
      replace HX := Lib.hid (HX.out.below hb13)
      replace HK := Lib.hid (HK.out.below hb13)
      replace HN := Lib.hid (HN.out.below hb13)
      replace HR := Lib.hid (HR.out.below hb13)
      replace HC := Lib.hid (HC.out.below hb13)
      replace HU := Lib.hid (HU.out.below hb13)
      replace HV := Lib.hid (HV.out.below hb13)
      replace HG := Lib.hid (HG.out.below hb13)
      replace HH := Lib.hid (HH.out.below hb13)
      have ⟨zX, cX, dX⟩ := HX.out
      have ⟨zK, cK⟩ := HK.out
      have ⟨zN, cN⟩ := HN.out
      clear hb13
      go_wp2_with fail
      refine ((pSame_any a11 a xs xs c11 cap _ HG.out HR.out)).mono ?_
      rw [HEL.out]
      rintro e w14 ⟨rfl, hb14⟩
      try clear zX cX dX
      try clear zK cK
      try clear zN cN
      replace HB := Lib.hid (HB.out.trans (hb14.mono HB.out.size))
      replace HX := Lib.hid (HX.out.below hb14)
      replace HK := Lib.hid (HK.out.below hb14)
      replace HN := Lib.hid (HN.out.below hb14)
      replace HR := Lib.hid (HR.out.below hb14)
      replace HC := Lib.hid (HC.out.below hb14)
      replace HU := Lib.hid (HU.out.below hb14)
      replace HV := Lib.hid (HV.out.below hb14)
      replace HG := Lib.hid (HG.out.below hb14)
      replace HH := Lib.hid (HH.out.below hb14)
      have ⟨zX, cX, dX⟩ := HX.out
      have ⟨zK, cK⟩ := HK.out
      have ⟨zN, cN⟩ := HN.out
      clear hb14
      clear HU HV HG HK HN
      try clear zK cK
      try clear zN cN
      go_wp2_with fail
      refine (HRN.out _ _ _ HC.out HH.out).mono ?_
      rintro e w15 ⟨a15, c15, rfl, ho15, hb15⟩
      try clear zX cX dX
      replace HB := Lib.hid (HB.out.trans (hb15.mono HB.out.size))
      replace HX := Lib.hid (HX.out.below hb15)
      replace HR := Lib.hid (HR.out.below hb15)
      replace HC := Lib.hid (HC.out.below hb15)
      replace HH := Lib.hid (HH.out.below hb15)
      have ⟨zX, cX, dX⟩ := HX.out
      clear hb15
      have HI := Lib.hid ho15.rd
      clear ho15 HRN HH HC HX
      try clear zX cX dX
      have ba15 : Below w15.heap.size w15 (w15.alloc (.cells #[.int .i64 (xs.length : Int), .slice a15 Q.length c15] 31)) := (Below.refl _ _).alloc (Nat.le_refl _) _
      have HS := Lib.hid (Box2.new w15 (.int .i64 (xs.length : Int)) (.slice a15 Q.length c15) 31)
      replace HB := Lib.hid (HB.out.trans (ba15.mono HB.out.size))
      replace HR := Lib.hid (HR.out.below ba15)
      replace HI := Lib.hid (HI.out.below ba15)
      obtain ⟨v15, hv15⟩ : ∃ x : World, x = w15.alloc (.cells #[.int .i64 (xs.length : Int), .slice a15 Q.length c15] 31) := ⟨_, rfl⟩
      have HV15 := Lib.hid hv15
      rw [← hv15] at HS HB HR HI
      clear ba15 hv15
      have cS := HS.out.2
      go_wp2_with fail
      rw [← HV15.out]
      clear cS
      have ⟨zS, cS, dS⟩ := HS.out
      refine (HAQ.out _ _ _ HI.out).mono ?_
      rintro e w16 ⟨a16, c16, rfl, ho16, hb16⟩
      try clear zS cS dS
      replace HB := Lib.hid (HB.out.trans (hb16.mono HB.out.size))
      replace HS := Lib.hid (HS.out.below hb16)
      replace HR := Lib.hid (HR.out.below hb16)
      replace HI := Lib.hid (HI.out.below hb16)
      have ⟨zS, cS, dS⟩ := HS.out
      clear hb16
      have HJ := Lib.hid ho16.rd
      clear ho16 HAQ HI HS
      try clear zS cS dS
      go_wp2_with fail
      refine ((pSame_any a16 a xs xs c16 cap _ HJ.out HR.out)).mono ?_
      rw [HEL.out]
      rintro e w17 ⟨rfl, hb17⟩
      replace HB := Lib.hid (HB.out.trans (hb17.mono HB.out.size))
      replace HR := Lib.hid (HR.out.below hb17)
      replace HJ := Lib.hid (HJ.out.below hb17)
      clear hb17
      go_wp2_with fail
      go_ret
      exact ⟨rfl, HB.out⟩

theorem rd_of_trod {H : Type} {enc : TypeId × Value → H} {W : World} {fuel : Nat} {c : Value} {y : DataW H × List MemPlace}
    (h : DataW.trod enc Tryz.prog W 0 (fun _ => true) true fuel 24 [c] = some y) : ∃ (a : Option Addr) (xs : List Int) (cap : Nat), c = .slice a xs.length cap ∧ Rd W a xs ∧ ∀ k, k < xs.length → (Lit.int .i64 (nth xs k)).wf = true := by
  rcases Go.ChangeShapes.open_ints Tryz.underlying24 Tryz.underlying3 (by kernel_rfl) h with ⟨hcs, _⟩ | ⟨x, len, cap, zs, hcs, _, hl, hm, hz, _, hcell, hwf⟩
  · simp only [List.cons.injEq, and_true] at hcs
    exact ⟨none, [], 0, hcs, ⟨by simp, fun k hk => by simp at hk⟩, fun k hk => by simp at hk⟩
  · simp only [List.cons.injEq, and_true] at hcs
    simp only [if_true] at hz
    have hlen : (zs.take len).length = len := by rw [List.length_take]; omega
    have hn : ∀ k, k < len → nth (zs.take len) k = zs.getD k 0 := by
      intro k hk
      simp only [nth, List.getD_eq_getElem?_getD, List.getElem?_take, hk, if_true]
    refine ⟨some x, zs.take len, cap, by rw [hlen]; exact hcs, ⟨by rw [hlen]; unfold maxLen at hm; omega, fun k hk => ?_⟩, fun k hk => ?_⟩
    · rw [hlen] at hk
      obtain ⟨b, off, sp⟩ := x
      have h0 := hcell 0 (by omega)
      have hsp : sp = none := by simpa [Addr.add] using World.cell?_spot h0
      subst hsp
      have hk' := hcell k (by omega)
      rw [Addr.add_lit] at hk'
      exact ⟨b, off, rfl, World.block_lt_of_cell? _ _ h0, by rw [hk', hn k hk]⟩
    · rw [hlen] at hk
      rw [hn k hk]
      have hk2 : k < zs.length := by omega
      exact hwf _ (by rw [List.getD_eq_getElem?_getD, List.getElem?_eq_getElem hk2]; exact List.getElem_mem hk2)

theorem own : ownKnob Tryz.prog.godebug = none := by kernel_rfl
theorem laidOut : laidOutB Tryz.prog = true := by kernel_rfl
theorem wf_bd {n : Int} (h : (Lit.int .i64 n).wf = true) : -9223372036854775808 ≤ n ∧ n ≤ 9223372036854775807 := by
  simp [Lit.wf, IntKind.min, IntKind.max, IntKind.bits, IntKind.signed] at h
  omega

theorem wf_byte {n : Int} (h : (Lit.int .u8 n).wf = true) : 0 ≤ n ∧ n ≤ 255 := by
  simp [Lit.wf, IntKind.min, IntKind.max, IntKind.bits, IntKind.signed] at h
  omega
/-- a slice of bytes that was handed over -/
theorem rdB_of_trod {H : Type} {enc : TypeId × Value → H} {W : World} {fuel : Nat} {c : Value} {y : DataW H × List MemPlace}
    (h : DataW.trod enc Tryz.prog W 0 (fun _ => true) true fuel 22 [c] = some y) : ∃ (a : Option Addr) (n cap : Nat), c = .slice a n cap ∧ RdB W a n ∧ n ≤ 9223372036854775807 := by
  rcases Go.ChangeShapes.open_ints Tryz.underlying22 Tryz.underlying5 (by kernel_rfl) h with ⟨hcs, _⟩ | ⟨x, len, cap, zs, hcs, _, hl, hm, hz, _, hcell, hwf⟩
  · simp only [List.cons.injEq, and_true] at hcs
    exact ⟨none, 0, 0, hcs, ⟨fun k hk => by omega⟩, by omega⟩
  · simp only [List.cons.injEq, and_true] at hcs
    simp only [if_true] at hz
    refine ⟨some x, len, cap, hcs, ⟨fun k hk => ?_⟩, by unfold maxLen at hm; omega⟩
    obtain ⟨b, off, sp⟩ := x
    have h0 := hcell 0 (by omega)
    have hsp : sp = none := by simpa [Addr.add] using World.cell?_spot h0
    subst hsp
    have hk' := hcell k (by omega)
    rw [Addr.add_lit] at hk'
    have hk2 : k < zs.length := by omega
    have hw := hwf _ (show zs.getD k 0 ∈ zs by rw [List.getD_eq_getElem?_getD, List.getElem?_eq_getElem hk2]; exact List.getElem_mem hk2)
    refine ⟨b, off, rfl, World.block_lt_of_cell? _ _ h0, zs.getD k 0, hk', ?_⟩
    exact wf_byte hw

open Go.ChangeShapes Go.WideShapes Go.ChangeAt Go.RowKit in
set_option maxRecDepth 100000 in
theorem lifted (os : Os) (started : os.Started) (H : Type) (enc : TypeId × Value → H) :
    ReturnsInHanded {} Tryz.checked os 5 .any (Rows.fnTopSpec.pre6 enc Tryz.prog Tryz.f5 Rows.fnTopRow.domain false) (Rows.fnTopSpec.post enc Tryz.prog Tryz.f5 false true false false) := by
  refine returnsInHanded_of_change (C := Tryz.checked) own started (by kernel_rfl) Tryz.func5
    (ChangeSpec.witness6 (enc := enc) (C := Tryz.checked) false ⟨#[], #[.slice none 0 0, .slice none 0 0], []⟩ 8 (by kernel_rfl) (by kernel_rfl) (by kernel_rfl) (by kernel_rfl)) ?_
  intro W base args ds gs before hval0 hW hcnd _
  have hval : ∀ (j : Nat) t v, Tryz.f5.params[j]? = some t → args[j]? = some v → Value.okWide Tryz.prog W .any base t v := hval0
  have hW' := hW
  obtain ⟨p, q, hA0, hV, rfl, hfz, hnd⟩ := hW
  have hA : DataW.TrodAll enc Tryz.prog W 0 (fun _ => true) true Tryz.f5.params.toList args.toList ds p := hA0
  rw [Tryz.params5] at hA hval
  obtain ⟨v0, vs0, d0, ds0, p0, q0, hargs, rfl, rfl, h0, r0⟩ := trodAll_cons hA
  obtain ⟨v1, vs1, d1, ds1, p1, q1, rfl, rfl, rfl, h1, r1⟩ := trodAll_cons r0
  obtain ⟨rfl, rfl, rfl⟩ := trodAll_nil r1
  obtain rfl : args = #[v0, v1] := by cases args; simp_all
  obtain ⟨rfl, rfl⟩ := trodVars_none hV
  have lt0 : ∀ x ∈ p0, x.block < W.heap.size := by obtain ⟨m, hm⟩ := h0; exact DataW.trod_lt m _ _ _ hm
  have lt1 : ∀ x ∈ p1, x.block < W.heap.size := by obtain ⟨m, hm⟩ := h1; exact DataW.trod_lt m _ _ _ hm
  obtain ⟨a0, len0, cap0, rfl⟩ := okWide_slice Tryz.underlying22 (hval 0 22 v0 rfl rfl)
  obtain ⟨a0, n0, cap0, e0, rd0, ln0⟩ := (by obtain ⟨fu, hf⟩ := h0; simp only [Value.cells] at hf; exact rdB_of_trod hf : ∃ (a : Option Addr) (n cap : Nat), Value.slice a0 len0 cap0 = .slice a n cap ∧ RdB W a n ∧ n ≤ 9223372036854775807)
  simp only [Value.slice.injEq] at e0
  obtain ⟨rfl, rfl, rfl⟩ := e0
  obtain ⟨a1, len1, cap1, rfl⟩ := okWide_slice Tryz.underlying22 (hval 1 22 v1 rfl rfl)
  obtain ⟨a1, n1, cap1, e1, rd1, ln1⟩ := (by obtain ⟨fu, hf⟩ := h1; simp only [Value.cells] at hf; exact rdB_of_trod hf : ∃ (a : Option Addr) (n cap : Nat), Value.slice a1 len1 cap1 = .slice a n cap ∧ RdB W a n ∧ n ≤ 9223372036854775807)
  simp only [Value.slice.injEq] at e1
  obtain ⟨rfl, rfl, rfl⟩ := e1
  clear hA0 hval0
  refine (walk a0 len0 cap0 a1 len1 cap1 W rd0 ln0 rd1 ln1).mono fun e W' ⟨he, bel⟩ => ?_
  subst he
  exact ⟨_, rfl, _, _, _, [], _, [], hW', trodAll_mk1 (shut_bool Tryz.underlying4 _), (trodAll_cons_mk (Below.trod laidOut (by kernel_rfl) (of_decide_eq_true (by kernel_rfl)) h0 bel lt0) (trodAll_cons_mk (Below.trod laidOut (by kernel_rfl) (of_decide_eq_true (by kernel_rfl)) h1 bel lt1) trodAll_mk0)), rfl, bel.frame _, fun h => by cases h⟩
theorem proved : Rows.FnTopSaid :=
  OpenClaim.holds_of_wide 5 Tryz.f5 rfl rfl rfl rfl rfl rfl rfl ⟨rfl, rfl, rfl, rfl, rfl⟩ rfl rfl rfl rfl rfl (by kernel_rfl) Tryz.func5 (by kernel_rfl)
    (of_decide_eq_true (by kernel_rfl)) (by unfold Func.isWrapper; first | (rw [if_pos (by decide +kernel)]; kernel_rfl) | (rw [if_neg (by decide +kernel)]; exact ⟨rfl, rfl⟩))
    (fun os started H enc _ => lifted os started H enc)

end Go.Proofs.YtiodfmiielnngaaGreat.top
