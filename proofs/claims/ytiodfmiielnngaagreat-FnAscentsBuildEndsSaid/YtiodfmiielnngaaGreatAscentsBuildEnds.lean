/- PROVED: the law FnAscentsBuildEnds returns true for every input, and each of its arguments reads afterwards as before. No conditions. -/
import Derived.Test.YtiodfmiielnngaaGreatRows
import Derived.WalkKit
import Derived.WalkSpells
import Derived.WalkLawsBesides
import Derived.Deep.QuietTactic
import Derived.BigQuiet
import Derived.ProofKit
import Derived.OpenShut
import Derived.ShutString
import Derived.ChangeOld
import Derived.Below
import Derived.Lib.SmallJoins
import Derived.Lib.Hide
import Derived.Shelf.Small.Bits
import Derived.Shelf.Small.Wraps
import Derived.Shelf.Strconv.Itoa0
import Derived.Shelf.Sort.Plain
import Derived.Shelf.Slices.Reverse
import Derived.Shelf.Slices.Equal
import Derived.Shelf.Slices.CompactI
import Derived.Shelf.Slices.SearchI
import Derived.Shelf.Slices.Delete
import Derived.Shelf.Slices.Cells
import Derived.Shelf.Slices.In.SortNone
import Derived.Shelf.Slices.Empties
import Derived.Shelf.Slices.Empties2
import Derived.Shelf.SlicesE.Reverse
import Derived.Shelf.SlicesE.Delete
import Derived.Sort.OwnSortedInts
import Derived.Lib.SliceRun
import Derived.Deep.RegionLaw
import Derived.Maps.AppendAt
import Derived.Deep.AppendLies
import Derived.Lib.SlicesCompact
import Derived.Lib.RowBridge
import Derived.Deep.RegionHeld3
import Derived.Test.YtiodfmiielnngaaGreatAscentsBuildEndsP3
namespace Go.Proofs.YtiodfmiielnngaaGreat.ascentsBuildEnds
open Go Go.RowKit
set_option linter.unusedVariables false
set_option linter.unusedSimpArgs false
set_option maxHeartbeats 400000
open Go.Shelf
theorem asN_pos {xss : List (List Int)} (h : 0 < asN xss) : 0 < xss.length := by
  apply Nat.pos_of_ne_zero
  intro e
  have h1 : xss = [] := List.eq_nil_of_length_eq_zero e
  rw [h1] at h
  exact absurd h (by decide)
theorem rep_set (q : Nat) (x : Int) (l : List Int) : (List.replicate (q+1) (0:Int) ++ l).set q x = List.replicate q 0 ++ x :: l := by
  rw [List.replicate_succ', List.append_assoc, List.set_append_right _ _ (by simp)]
  simp
set_option maxRecDepth 100000 in
set_option maxHeartbeats 2000000 in
theorem iAscM_any (a : Option Addr) (xss : List (List Int)) (cap : Nat) (w : World) (hx : RdC w a xss) (hs : xss.length + totS xss xss.length ≤ 1048576) :
    Calls Tryz.prog 24 #[.agg #[.slice a xss.length cap]] w fun e w' => ∃ a0 c0, e = .returned (.tuple #[.slice a0 (amL xss).length c0, .bool (mxB xss)]) ∧ OwnI w' w.heap.size (.slice a0 (amL xss).length c0) (amL xss) ∧ Below w.heap.size w w' := by
  have hV := Var1.new w (.slice a xss.length cap) 45
  have hb0 : Below w.heap.size w (w.alloc (.cells #[.slice a xss.length cap] 45)) := (by repeat (first | exact Below.refl _ _ | assumption | refine Below.alloc ?_ (by first | exact Nat.le_refl _ | (simp only [World.size_alloc, World.size_setCell, World.size_drew]; omega) | omega) _ | refine Below.setCell ?_ (by first | exact Nat.le_refl _ | (simp only [World.size_alloc, World.size_setCell, World.size_drew]; omega) | omega) _ | refine Below.drew ?_))
  have ⟨⟨zV, cV⟩, fV⟩ := hV
  have HCL := Lib.hid (fun W (h : RdC W a xss) => iSumMx_any a xss cap W h hs)
  cases hm : mxB xss
  · have HM := Lib.hid hm
    have H1 : Hid (amL xss = []) := by simp [Hid, amL, hm]
    clear hm
    go_enter Tryz.func24, Tryz.ntmps24
    go_wp2_with fail
    refine (HCL.out _ (hx.below hb0)).mono ?_
    rintro e w1 ⟨rfl, hb⟩
    rw [HM.out]
    have b1 : Below w.heap.size w w1 := hb0.trans (hb.mono (by simp))
    clear hb
    go_wp2_with fail
    refine bodyPost_ret (v := .tuple #[.slice none 0 0, .bool false]) (by simp [results, Tryz.results24, go_sem]) rfl ?_
    exact ⟨none, 0, by rw [H1.out]; rfl, by rw [H1.out]; exact OwnI.nil _ _, b1⟩
  · have HM := Lib.hid hm
    have H1 : Hid (amL xss = asL xss) := by simp [Hid, amL, hm]
    have h12 : asN xss ≤ 12 := by have := of_mx hm; rw [asN]; omega
    have hlenL : (asL xss).length = asN xss := asF_len _ _
    have HL : Hid ((asL xss).length = asN xss) := hlenL
    have HS : Hid (smV xss = ((asN xss : Nat) : Int)) := by
      rw [Hid, smV, if_pos hm, asN]
      have := matS_nn (xss := xss) (k := xss.length) (fun j hj => by have := (adB_row (mxB_iff.1 hm).1 hj).1; omega)
      omega
    obtain ⟨i0, hi, hz0, hz1, hz2⟩ := info_parts infoInt
    obtain ⟨N, hN⟩ : ∃ N, N = asN xss := ⟨_, rfl⟩
    have HN := Lib.hid hN
    rw [← hN] at h12 HS HL
    clear hm hN hlenL
    go_enter Tryz.func24, Tryz.ntmps24
    go_wp2_with fail
    refine (HCL.out _ (hx.below hb0)).mono ?_
    rintro e w1 ⟨rfl, hb⟩
    rw [HM.out, HS.out]
    have b1 : Below w.heap.size w w1 := hb0.trans (hb.mono (by simp))
    have hV1 := hV.below hb
    have hz1' : w.heap.size + 1 ≤ w1.heap.size := by have := hb.size; simpa using this
    have ⟨⟨zV1, cV1⟩, fV1⟩ := hV1
    clear hb hV zV cV fV hb0 HCL
    go_wp2_with (at_make; refine wpList_make_full _ rfl (.tmp 15) (.tmp 15) 24 rfl (w.heap.size + 1) 3 i0 (.int .i64 0) 1 Tryz.underlying24 hi hz0 hz1 .i64 .i64 _ _ N rfl rfl rfl rfl (by rw [hz2]; omega) (by unfold maxLen; omega) hz1' ?_; intro w3 hown hgrow; have hV3 := hV1.kept hgrow (by simp); have b3 : Below w.heap.size w w3 := b1.trans (below_grown_none hgrow b1.size); have HO : Hid (OwnI w3 (w.heap.size + 1) (.slice (some ⟨w1.heap.size, 0, none⟩) N N) (List.replicate N 0)) := by (unfold Hid OwnI; rw [List.length_replicate]; simpa [Value.cells, toList_madeCells_one] using hown))
    have hG1 : w.heap.size + 1 ≤ w1.heap.size := hz1'
    have hx3 := hx.below b3
    clear hown hgrow hV1 zV1 cV1 fV1 b1 hz1' hx
    go_loopw [7] (fun i wr => ∃ (k : Nat) (cur : List (List Int)) (ac : Option Addr) (cc : Nat) (lst : List Int), i = .int .i64 ((k : Int) - 1) ∧ mxB cur = true ∧ cur.length + totS cur cur.length ≤ 1048576 ∧ Hid (asN cur = k) ∧ k + lst.length = N ∧ Hid (asF (asN cur) cur ++ lst = asL xss) ∧ OwnI wr (w.heap.size + 1) (.slice (some ⟨w1.heap.size, 0, none⟩) N N) (List.replicate k 0 ++ lst) ∧ Var1 wr w.heap.size (.slice ac cur.length cc) ∧ RdC wr ac cur ∧ Below w.heap.size w wr) (fun i _ => (intOf i + 1).toNat)
    case atStart => exact ⟨N, xss, a, cap, [], by go_num, HM.out, hs, HN.out.symm, by simp, by rw [Hid, List.append_nil]; rfl, by rw [List.append_nil]; exact HO.out, hV3, hx3, b3⟩
    case round =>
      clear hV3 b3 HO hs hx3
      obtain ⟨k, cur, ac, cc, lst, rfl, hmc, hsz, hk, hlen, heq, hown, hV, hr, hb⟩ := hrel
      have ⟨⟨zV, cV⟩, fV⟩ := hV
      have HO := Lib.hid hown
      cases k with
      | succ q =>
        have e1 : (((q + 1 : Nat) : Int) - 1) = (q : Int) := by omega
        rw [e1]
        have HT := Lib.hid (topB_of hmc (asN_pos (by rw [hk.out]; omega)))
        have HSH := Lib.hid (iShrink_any ac cur cc wr hr hsz)
        have HMC := Lib.hid hmc
        have HV := Lib.hid hV
        have hlt := (World.ownsRow.lt hown w1.heap.size (by simp [Value.ownBlock])).2
        clear hmc hsz hown hV hr
        go_wp2_with fail
        refine HSH.out.mono ?_
        rintro e w2 ⟨a0, c0, vl, rfl, hP, hb2⟩
        have hV2 := HV.out.below hb2
        have ⟨⟨zV2, cV2⟩, fV2⟩ := hV2
        have hV3 := hV2.set (.slice a0 (shL cur).length c0)
        have hO3 := (HO.out.below hb2 (Nat.le_refl _)).setBelow (p := ⟨w.heap.size, 0, none⟩) (by simp) (.slice a0 (shL cur).length c0)
        have hP3 := hP.setBelow (p := ⟨w.heap.size, 0, none⟩) zV (.slice a0 (shL cur).length c0)
        have ⟨hcc, hfr⟩ := (HO.out.below hb2 (Nat.le_refl _)).at' (i := q) (by simp; omega) (by simp; omega)
        have hput := (hO3.put (by simp; omega) q (topV cur)).1
        rw [rep_set] at hput
        have HPUT := Lib.hid hput
        have HV4 := Lib.hid (hV3.other (p := ⟨w1.heap.size, q, none⟩) (.int .i64 (topV cur)) (by simp; omega))
        have HP4 := Lib.hid (hP3.setBelow (p := ⟨w1.heap.size, q, none⟩) hlt (.int .i64 (topV cur)))
        have HB4 := Lib.hid (((hb.trans (hb2.mono hb.size)).setCell (p := ⟨w.heap.size, 0, none⟩) (by simp) (.slice a0 (shL cur).length c0)).setCell (p := ⟨w1.heap.size, q, none⟩) (by simp; omega) (.int .i64 (topV cur)))
        have hqN : q < N := by omega
        have hqN2 : (q : Int) < (N : Int) := by omega
        clear hV3 hO3 hP3 hput hP
        go_wp2_with fail
        go_roundw
        case rel => exact ⟨q, shL cur, a0, c0, topV cur :: lst, by go_num, (sh_mx HT.out).1, shL_len _, by have h1 := asN_step HT.out; have h2 := hk.out; unfold Hid; omega, by simp; omega, by rw [Hid, ← asF_step HT.out]; exact heq.out, HPUT.out, HV4.out, HP4.out.rdC, HB4.out⟩
        case measure => simp [intOf]
      | zero =>
        have hL : asL xss = lst := by
          rw [← heq.out, hk.out]; rfl
        have HL2 := Lib.hid hL
        have HLN : Hid (lst.length = N) := by unfold Hid; omega
        clear heq hr hmc hL
        go_wp2_with fail
        refine bodyPost_ret (v := .tuple #[.slice (some ⟨w1.heap.size, 0, none⟩) N N, .bool true]) (by simp [results, Tryz.results24, go_sem]) rfl ?_
        exact ⟨some ⟨w1.heap.size, 0, none⟩, N, by rw [H1.out, HL2.out, HLN.out], by rw [H1.out, HL2.out, HLN.out]; have h := HO.out.mono (B' := w.heap.size) (Nat.le_succ _); simpa using h, hb⟩

theorem iAscOrd_any (n : Int) (a : Option Addr) (xs : List Int) (cap : Nat) (w : World) (hn : -9223372036854775808 ≤ n ∧ n ≤ 9223372036854775807) (hx : Rd w a xs) :
    Calls Tryz.prog 18 #[.agg #[.int .i64 n, .slice a xs.length cap]] w (GotI w (aooL n xs) (isIv n xs)) := by
  have hlen := hx.len
  obtain ⟨W0, hW0⟩ : ∃ x : World, x = w.alloc (.cells #[.int .i64 n, .slice a xs.length cap] 31) := ⟨_, rfl⟩
  have bw0 : Below w.heap.size w W0 := by rw [hW0]; exact (Below.refl _ _).alloc (Nat.le_refl _) _
  have B0 : Box2 W0 w.heap.size (.int .i64 n) (.slice a xs.length cap) := by rw [hW0]; exact Box2.new w _ _ _
  have hx0 := hx.below bw0
  obtain ⟨g0, hg0⟩ : ∃ g, g = w.heap.size := ⟨_, rfl⟩
  have HC := Lib.hid (fun W (h : Rd W a xs) => iMxOrd_any n a xs cap W hn h)
  have HSZ := Lib.hid (moL_len n xs)
  cases hm : isIv n xs
  · have HL : Hid (aooL n xs = []) := by simp [Hid, aooL, hm]
    have HML : Hid (moL n xs = []) := by simp [Hid, moL, hm]
    rw [hm, HML.out] at HC
    clear hm hx
    go_enter Tryz.func18, Tryz.ntmps18
    go_wp2_with fail
    rw [← hW0]
    rw [← hg0] at B0 ⊢
    have ⟨zB0, cB0, dB0⟩ := B0
    clear hg0 hW0
    go_wp2_with fail
    refine (HC.out _ hx0).mono ?_
    rintro e w1 ⟨a1, c1, vl, rfl, hro, hb⟩
    have b1 := bw0.trans (hb.mono bw0.size)
    have b2 := b1.alloc b1.size (.cells #[.slice a1 ([] : List (List Int)).length c1] 45)
    clear cB0 dB0 hro
    go_wp2_with fail
    refine bodyPost_ret (v := .tuple #[.slice none 0 0, .bool false]) (by simp [results, Tryz.results18, go_sem]) rfl ?_
    exact gotI_no HL.out rfl b2
  · have HG := Lib.hid (mo_good hm)
    have HL : Hid (aooL n xs = amL (moL n xs)) := by rw [Hid, aooL, if_pos hm]
    rw [hm] at HC
    have HA := Lib.hid (fun W a0 c0 (h : RdC W a0 (moL n xs)) => iAscM_any a0 (moL n xs) c0 W h HSZ.out)
    rw [HG.out] at HA
    obtain ⟨L, hL⟩ : ∃ L, L = moL n xs := ⟨_, rfl⟩
    rw [← hL] at HC HA HL
    clear hm hx hL HSZ HG
    go_enter Tryz.func18, Tryz.ntmps18
    go_wp2_with fail
    rw [← hW0]
    rw [← hg0] at B0 ⊢
    have ⟨zB0, cB0, dB0⟩ := B0
    clear hg0 hW0
    go_wp2_with fail
    refine (HC.out _ hx0).mono ?_
    rintro e w1 ⟨a1, c1, vl, rfl, hro, hb⟩
    have b1 := bw0.trans (hb.mono bw0.size)
    have b2 := b1.alloc b1.size (.cells #[.slice a1 L.length c1] 45)
    have hrc := hro.rdC.below (show Below w1.heap.size w1 (w1.alloc (.cells #[.slice a1 L.length c1] 45)) from (Below.refl _ _).alloc (Nat.le_refl _) _)
    have HAA := Lib.hid (HA.out _ a1 c1 hrc)
    clear cB0 dB0 hro hrc
    go_wp2_with fail
    refine HAA.out.mono ?_
    rintro e w3 ⟨a3, c3, rfl, ho3, hb3⟩
    go_wp2_with fail
    refine bodyPost_ret (v := .tuple #[.slice a3 (amL L).length c3, .bool true]) (by simp [results, Tryz.results18, go_sem]) rfl ?_
    exact ⟨a3, c3, by rw [HL.out], by rw [HL.out]; exact ho3.mono b2.size, b2.trans (hb3.mono b2.size)⟩

set_option maxRecDepth 100000 in
set_option maxHeartbeats 8000000 in
theorem walk (a0 : Option Addr) (n0 cap0 : Nat) (a1 : Option Addr) (n1 cap1 : Nat) (w : World) (hR0 : RdB w a0 n0) (hl0 : n0 ≤ 9223372036854775807) (hR1 : RdB w a1 n1) (hl1 : n1 ≤ 9223372036854775807) :
    Calls Tryz.prog 3 #[.slice a0 n0 cap0, .slice a1 n1 cap1] w fun e w' => e = .returned (.bool true) ∧ Below w.heap.size w w' := by
  go_enter Tryz.func3, Tryz.ntmps3
  go_wp2_with fail
  refine (big_any _ _ _ _ _ _ _ hl0 hl1).mono ?_
  rintro e w' ⟨he, rfl⟩
  rcases he with rfl | ⟨rfl, hb0, hb1⟩
  · go_wp2_with fail
    go_ret
    exact ⟨rfl, (by repeat (first | exact Below.refl _ _ | assumption | refine Below.alloc ?_ (by first | exact Nat.le_refl _ | (simp only [World.size_alloc, World.size_setCell, World.size_drew]; omega) | omega) _ | refine Below.setCell ?_ (by first | exact Nat.le_refl _ | (simp only [World.size_alloc, World.size_setCell, World.size_drew]; omega) | omega) _ | refine Below.drew ?_))⟩
  · go_wp2_with fail
    refine (drIvA_any _ _ _ _ hR0 hb0).mono ?_
    rintro e w1 ⟨a, cap, xs, rfl, ho, hl, hx, hb⟩
    have hcp := ho.capLe
    have HB := Lib.hid hb
    have HR := Lib.hid ho.rd
    clear hx ho hb hR0 hR1 hl0 hl1 hb0 hb1
    obtain ⟨N, hN⟩ : ∃ N, N = agN xs := ⟨_, rfl⟩
    obtain ⟨V, hV⟩ : ∃ V, V = agV xs := ⟨_, rfl⟩
    obtain ⟨G, hG⟩ : ∃ G, G = agB xs := ⟨_, rfl⟩
    obtain ⟨P, hP⟩ : ∃ P, P = aoO xs := ⟨_, rfl⟩
    obtain ⟨L, hL⟩ : ∃ L, L = aoL xs := ⟨_, rfl⟩
    have hvl : V.length = N * 2 := by rw [hV, hN]; exact agV_len xs
    have hnl : N ≤ 1048576 := by rw [hN]; exact agN_le xs
    have HII := Lib.hid (fun W (h : Rd W a xs) => iIntervals_any a xs cap W h hcp)
    have HSI := Lib.hid (fun W (h : Rd W a xs) => sIntervals_any a xs cap W h hcp)
    have HIO := Lib.hid (fun W (h : Rd W a xs) => iOrderAsc_any a xs cap W h hcp)
    have HSO := Lib.hid (fun W (h : Rd W a xs) => sOrderAsc_any a xs cap W h hcp)
    unfold GotV at HII HSI
    unfold GotO at HIO HSO
    rw [← hN, ← hV, ← hG] at HII HSI
    rw [← hP, ← hL, ← hG] at HIO HSO
    have HEQ : Hid (∀ (m : Int) (zs : List Int), eqO m zs m zs = true) := fun m zs => eqO_refl m zs
    have HEL : Hid (∀ l : List Int, eqL l l = true) := fun l => by simp [eqL]
    have HNE := Lib.hid hN
    have HVE := Lib.hid hV
    have HGE := Lib.hid hG
    have HPE := Lib.hid hP
    have HLE := Lib.hid hL
    have HVL := Lib.hid hvl
    have q1 : (G != G) = false := by simp
    clear hN hV hG hP hL hvl
    go_wp2_with fail
    refine (HII.out _ HR.out).mono ?_
    rintro e w3 ⟨a3, c3, rfl, ho3, hb3⟩
    replace HB := Lib.hid (HB.out.trans (hb3.mono HB.out.size))
    replace HR := Lib.hid (HR.out.below hb3)
    clear hb3
    have HC := Lib.hid (ho3.rd hnl)
    clear ho3
    go_wp2_with fail
    refine (HSI.out _ HR.out).mono ?_
    rintro e w4 ⟨a4, c4, rfl, ho4, hb4⟩
    replace HB := Lib.hid (HB.out.trans (hb4.mono HB.out.size))
    replace HR := Lib.hid (HR.out.below hb4)
    replace HC := Lib.hid (HC.out.below hb4)
    clear hb4
    have HD := Lib.hid (ho4.rd hnl)
    clear ho4 HII HSI
    go_wp2_with fail
    refine ((pSameV_same a3 a4 V N c3 c4 _ HC.out HD.out HVL.out hnl)).mono ?_
    rintro e w5 ⟨rfl, hb5⟩
    replace HB := Lib.hid (HB.out.trans (hb5.mono HB.out.size))
    replace HR := Lib.hid (HR.out.below hb5)
    replace HC := Lib.hid (HC.out.below hb5)
    replace HD := Lib.hid (HD.out.below hb5)
    clear hb5
    clear HD
    go_wp2_with fail
    refine (HIO.out _ HR.out).mono ?_
    rintro e w6 ⟨a6, c6, rfl, ho6, hb6⟩
    replace HB := Lib.hid (HB.out.trans (hb6.mono HB.out.size))
    replace HR := Lib.hid (HR.out.below hb6)
    replace HC := Lib.hid (HC.out.below hb6)
    clear hb6
    have HU := Lib.hid ho6.rd
    clear ho6
    have ba6 : Below w6.heap.size w6 (w6.alloc (.cells #[.int .i64 P, .slice a6 L.length c6] 31)) := (Below.refl _ _).alloc (Nat.le_refl _) _
    have HX := Lib.hid (Box2.new w6 (.int .i64 P) (.slice a6 L.length c6) 31)
    replace HB := Lib.hid (HB.out.trans (ba6.mono HB.out.size))
    replace HR := Lib.hid (HR.out.below ba6)
    replace HC := Lib.hid (HC.out.below ba6)
    replace HU := Lib.hid (HU.out.below ba6)
    obtain ⟨v6, hv6⟩ : ∃ x : World, x = w6.alloc (.cells #[.int .i64 P, .slice a6 L.length c6] 31) := ⟨_, rfl⟩
    have HV6 := Lib.hid hv6
    rw [← hv6] at HX HB HR HC HU
    clear ba6 hv6
    have cX := HX.out.2
    go_wp2_with fail
    rw [← HV6.out]
    clear cX
    have ⟨zX, cX, dX⟩ := HX.out
    refine (HSO.out _ HR.out).mono ?_
    rintro e w7 ⟨a7, c7, rfl, ho7, hb7⟩
    try clear zX cX dX
    replace HB := Lib.hid (HB.out.trans (hb7.mono HB.out.size))
    replace HX := Lib.hid (HX.out.below hb7)
    replace HR := Lib.hid (HR.out.below hb7)
    replace HC := Lib.hid (HC.out.below hb7)
    replace HU := Lib.hid (HU.out.below hb7)
    have ⟨zX, cX, dX⟩ := HX.out
    clear hb7
    have HD := Lib.hid ho7.rd
    clear ho7 HIO HSO
    have ba7 : Below w7.heap.size w7 (w7.alloc (.cells #[.int .i64 P, .slice a7 L.length c7] 31)) := (Below.refl _ _).alloc (Nat.le_refl _) _
    have HY := Lib.hid (Box2.new w7 (.int .i64 P) (.slice a7 L.length c7) 31)
    replace HB := Lib.hid (HB.out.trans (ba7.mono HB.out.size))
    replace HX := Lib.hid (HX.out.below ba7)
    replace HR := Lib.hid (HR.out.below ba7)
    replace HC := Lib.hid (HC.out.below ba7)
    replace HU := Lib.hid (HU.out.below ba7)
    replace HD := Lib.hid (HD.out.below ba7)
    obtain ⟨v7, hv7⟩ : ∃ x : World, x = w7.alloc (.cells #[.int .i64 P, .slice a7 L.length c7] 31) := ⟨_, rfl⟩
    have HV7 := Lib.hid hv7
    rw [← hv7] at HY HB HX HR HC HU HD
    clear ba7 hv7
    have cY := HY.out.2
    go_wp2_with fail
    rw [← HV7.out]
    try clear zX cX dX
    clear cY
    have ⟨zX, cX, dX⟩ := HX.out
    have ⟨zY, cY, dY⟩ := HY.out
    refine ((pSameO_any P P a6 a7 L L c6 c7 _ HU.out HD.out)).mono ?_
    rw [HEQ.out]
    rintro e w8 ⟨rfl, hb8⟩
    try clear zX cX dX
    try clear zY cY dY
    replace HB := Lib.hid (HB.out.trans (hb8.mono HB.out.size))
    replace HX := Lib.hid (HX.out.below hb8)
    replace HY := Lib.hid (HY.out.below hb8)
    replace HR := Lib.hid (HR.out.below hb8)
    replace HC := Lib.hid (HC.out.below hb8)
    replace HU := Lib.hid (HU.out.below hb8)
    replace HD := Lib.hid (HD.out.below hb8)
    have ⟨zX, cX, dX⟩ := HX.out
    have ⟨zY, cY, dY⟩ := HY.out
    clear hb8
    clear HD HY
    try clear zY cY dY
    cases hGG : G
    · go_wp2_with fail
      go_ret
      exact ⟨rfl, HB.out⟩
    · have hgb : agB xs = true := by rw [← HGE.out]; exact hGG
      have ⟨hA, h10⟩ := agB_iff.1 hgb
      have hcan := ag_canon hA h10
      have hgd := ag_good hA h10
      have hbz := fun i hi => bel_zero hA h10 (i := i) hi
      have hal := as_all hA
      have hrw := mo_rows hA
      have hmm := (moK_ok hA (Nat.le_refl xs.length)).1
      have e1 : P = (xs.length : Int) := by rw [HPE.out, aoO, if_pos hgb]
      have e2 : L = ivo (agC xs xs.length).1 xs.length xs.length := by rw [HLE.out, aoL, if_pos hgb]
      have e3 : N = xs.length := by rw [HNE.out, agN, if_pos hgb]
      have e4 : V = (agC xs xs.length).1 := by rw [HVE.out, agV, if_pos hgb]
      have hll : L.length = xs.length := by rw [e2, ivo_len]
      have hiv : isIv (xs.length : Int) L = true := by rw [e2]; exact ivo_is hgd
      rw [← e2] at hcan hbz
      rw [← e4] at hcan
      rw [hll] at hbz
      subst e1
      subst e3
      have hnn : -9223372036854775808 ≤ (xs.length : Int) ∧ (xs.length : Int) ≤ 9223372036854775807 := by omega
      have HE : Hid (∀ W, Rd W a6 L → Calls Tryz.prog 14 #[.agg #[.int .i64 (xs.length : Int), .slice a6 L.length c6]] W fun e w' => ∃ a'' c'', e = .returned (.tuple #[.slice a'' xs.length c'', .bool true]) ∧ OwnV w' W.heap.size (.slice a'' xs.length c'') xs.length V ∧ Below W.heap.size W w') := fun W h => by
        have := iEnds_any (xs.length : Int) a6 L c6 W hnn h
        unfold GotV at this
        rw [endN, endL, hiv, if_pos rfl, if_pos rfl, hll, hcan.1] at this
        rw [hll]
        exact this
      have HG : Hid (∀ W, Rd W a6 L → Calls Tryz.prog 15 #[.agg #[.int .i64 (xs.length : Int), .slice a6 L.length c6]] W fun e w' => e = .returned (.tuple #[.int .i64 ((moK xs xs.length).length : Int), .bool true]) ∧ Below W.heap.size W w') := fun W h => by
        have := iMagnitude_any (xs.length : Int) a6 L c6 W hnn h
        rw [magF, hiv, if_pos rfl, hcan.2.1] at this
        exact this
      have HAS : Hid (∀ W, Rd W a xs → Calls Tryz.prog 16 #[.slice a xs.length cap] W fun e w' => e = .returned (.tuple #[.int .i64 ((ascTo xs xs.length : Nat) : Int), .bool true]) ∧ Below W.heap.size W w') := fun W h => by
        have := iAscentsOf_any a xs cap W h
        rw [aoN, hA, if_pos rfl] at this
        exact this
      have HBE : Hid (∀ i : Nat, i < xs.length → ∃ b : Int, (b = 0 ↔ nth xs i = 0) ∧ ∀ W, Rd W a6 L → Calls Tryz.prog 17 #[.agg #[.int .i64 (xs.length : Int), .slice a6 L.length c6], .int .i64 (i : Int)] W fun e w' => e = .returned (.tuple #[.int .i64 b, .bool true]) ∧ Below W.heap.size W w') := fun i hi => by
        have hok : okE (xs.length : Int) L (i : Int) = true := by
          rw [okE, (ordB_iff.1 (isIv_ord hiv)).1, Bool.true_and]
          exact elemB_iff.2 (by omega)
        refine ⟨((belowTo L (i : Int) xs.length : Nat) : Int), by rw [← hbz i hi]; omega, fun W h => ?_⟩
        have := iBelowOf_any (xs.length : Int) a6 L c6 (i : Int) W hnn h (by omega)
        rw [belowF, hok, if_pos rfl, hll] at this
        rw [hll]
        exact this
      have HAO : Hid (∀ W, Rd W a6 L → Calls Tryz.prog 18 #[.agg #[.int .i64 (xs.length : Int), .slice a6 L.length c6]] W fun e w' => ∃ a'' c'', e = .returned (.tuple #[.slice a'' xs.length c'', .bool true]) ∧ OwnI w' W.heap.size (.slice a'' xs.length c'') xs ∧ Below W.heap.size W w') := fun W h => by
        have := iAscOrd_any (xs.length : Int) a6 L c6 W hnn h
        unfold GotI at this
        rw [aooL, hiv, if_pos rfl, hcan.2.2.1, amL, if_pos hmm, hal] at this
        exact this
      have hat := ascTo_le xs xs.length
      have HRW := Lib.hid hrw
      have hd13 : (moK xs xs.length).length ≤ 13 := by have := mxB_small hmm; omega
      generalize (moK xs xs.length).length = D at HG HRW hd13
      generalize ascTo xs xs.length = asc at HAS HRW hat
      have HZS : Hid (∀ k, zrTo xs (k+1) = zrTo xs k + (if nth xs k = 0 then 1 else 0)) := fun k => rfl
      have HZL := Lib.hid (zrTo_le xs)
      have HZ0 : Hid (zrTo xs 0 = 0) := rfl
      clear hgb hA hcan hgd hbz hal hrw hmm e2 e4 hll hiv HNE HVE HGE HPE HLE hGG q1
      go_wp2_with fail
      refine (HE.out _ HU.out).mono ?_
      rintro e w9 ⟨a9, c9, rfl, ho9, hb9⟩
      try clear zX cX dX
      replace HB := Lib.hid (HB.out.trans (hb9.mono HB.out.size))
      replace HX := Lib.hid (HX.out.below hb9)
      replace HR := Lib.hid (HR.out.below hb9)
      replace HC := Lib.hid (HC.out.below hb9)
      replace HU := Lib.hid (HU.out.below hb9)
      have ⟨zX, cX, dX⟩ := HX.out
      clear hb9
      have HW := Lib.hid (ho9.rd (by omega))
      clear ho9 HE
      go_wp2_with fail
      refine (HG.out _ HU.out).mono ?_
      rintro e w10 ⟨rfl, hb10⟩
      try clear zX cX dX
      replace HB := Lib.hid (HB.out.trans (hb10.mono HB.out.size))
      replace HX := Lib.hid (HX.out.below hb10)
      replace HR := Lib.hid (HR.out.below hb10)
      replace HC := Lib.hid (HC.out.below hb10)
      replace HU := Lib.hid (HU.out.below hb10)
      replace HW := Lib.hid (HW.out.below hb10)
      have ⟨zX, cX, dX⟩ := HX.out
      clear hb10
      go_wp2_with fail
      refine (HAS.out _ HR.out).mono ?_
      rintro e w11 ⟨rfl, hb11⟩
      try clear zX cX dX
      replace HB := Lib.hid (HB.out.trans (hb11.mono HB.out.size))
      replace HX := Lib.hid (HX.out.below hb11)
      replace HR := Lib.hid (HR.out.below hb11)
      replace HC := Lib.hid (HC.out.below hb11)
      replace HU := Lib.hid (HU.out.below hb11)
      replace HW := Lib.hid (HW.out.below hb11)
      have ⟨zX, cX, dX⟩ := HX.out
      clear hb11
      go_wp2_with fail
      refine ((pSameV_same a9 a3 V xs.length c9 c3 _ HW.out HC.out HVL.out (by omega))).mono ?_
      rintro e w12 ⟨rfl, hb12⟩
      try clear zX cX dX
      replace HB := Lib.hid (HB.out.trans (hb12.mono HB.out.size))
      replace HX := Lib.hid (HX.out.below hb12)
      replace HR := Lib.hid (HR.out.below hb12)
      replace HC := Lib.hid (HC.out.below hb12)
      replace HU := Lib.hid (HU.out.below hb12)
      replace HW := Lib.hid (HW.out.below hb12)
      have ⟨zX, cX, dX⟩ := HX.out
      clear hb12
      clear HW HC HG HAS
      by_cases h0 : 0 < xs.length
      case' pos =>
        have l1 : (0 : Int) < (xs.length : Int) := by omega
        have hk : ((D : Int) != (asc : Int) + 1) = false := by
          have h := HRW.out
          rw [if_neg (by omega)] at h
          simp; omega
      case' neg =>
        have l1 : ¬ (0 : Int) < (xs.length : Int) := by omega
      all_goals
        clear h0
        go_wp2_with fail
        have HBB := HB
        have HRR := HR
        have HUU := HU
        have HXX := HX
        try clear zX cX dX
        go_loopw [20, 21, 122] (fun z m i wr => ∃ k : Nat, k ≤ xs.length ∧ i = .int .i64 k ∧ z = .int .i64 ((zrTo xs k : Nat) : Int) ∧ m = .int .i64 ((zrTo xs k : Nat) : Int) ∧ Below w12.heap.size w12 wr) (fun _ _ i _ => xs.length - (intOf i).toNat)
        case atStart => exact ⟨0, Nat.zero_le _, rfl, by rw [HZ0.out]; rfl, by rw [HZ0.out]; rfl, Below.refl _ _⟩
        case round =>
          obtain ⟨k, hk2, rfl, rfl, rfl, hb⟩ := hrel
          have HT := Lib.hid hb
          by_cases hlt : k < xs.length
          · have k1 : (k : Int) < (xs.length : Int) := by omega
            obtain ⟨b1, o1, rfl, hb1, hc1⟩ := (HRR.out.below hb).cell k hlt
            have ⟨zX, cX, dX⟩ := HXX.out.below hb
            have hz := HZS.out k
            have hzb := HZL.out k
            obtain ⟨b, hbz, hcall⟩ := HBE.out k hlt
            have HCA := Lib.hid hcall
            have HUy := Lib.hid (HUU.out.below hb)
            generalize zrTo xs k = z0 at hz hzb ⊢
            generalize nth xs k = x0 at hc1 hz hbz
            clear hb hcall
            go_wp2_with fail
            refine (HCA.out _ HUy.out).mono ?_
            rintro e wn ⟨rfl, hbn⟩
            have HTn := Lib.hid (HT.out.trans (hbn.mono HT.out.size))
            clear hbn
            by_cases hx0 : x0 = 0
            · have hb0 : b = 0 := hbz.2 hx0
              subst hx0 hb0
              rw [if_pos rfl] at hz
              have HZ := Lib.hid hz
              clear hz hbz
              go_wp2_with fail
              go_roundw
              case rel => exact ⟨k + 1, by omega, by go_num, val_int (by rw [HZ.out]; omega), val_int (by rw [HZ.out]; omega), HTn.out⟩
              case measure => simp [intOf]; omega
            · rw [if_neg hx0] at hz
              have hb0 : ¬ b = 0 := fun e => hx0 (hbz.1 e)
              have HZ := Lib.hid hz
              have hxb : (x0 == 0) = false := by simpa using hx0
              have hbb : (b == 0) = false := by simpa using hb0
              clear hz hbz
              go_wp2_with fail
              go_roundw
              case rel => exact ⟨k + 1, by omega, by go_num, val_int (by rw [HZ.out]; omega), val_int (by rw [HZ.out]; omega), HTn.out⟩
              case measure => simp [intOf]; omega
          · obtain rfl : k = xs.length := by omega
            have HBz := Lib.hid (HBB.out.trans (hb.mono HBB.out.size))
            have HRz := Lib.hid (HRR.out.below hb)
            have HUz := Lib.hid (HUU.out.below hb)
            have ⟨zX, cX, dX⟩ := HXX.out.below hb
            have ez : (((zrTo xs xs.length : Nat) : Int) != ((zrTo xs xs.length : Nat) : Int)) = false := by simp
            generalize ((zrTo xs xs.length : Nat) : Int) = zz at ez ⊢
            clear hb
            by_cases hn0 : xs.length = 0
            · have hnb : ((xs.length : Int) == 0) = true := beq_iff_eq.2 (by omega)
              have l3 : (xs.length : Int) = 0 := by omega
              go_wp2_with fail
              go_ret
              exact ⟨rfl, HBz.out⟩
            · have hnb : ((xs.length : Int) == 0) = false := beq_eq_false_iff_ne.2 (by omega)
              go_wp2_with fail
              refine (HAO.out _ HUz.out).mono ?_
              rintro e wn ⟨an, cn, rfl, hon, hbn⟩
              have HRy := Lib.hid (HRz.out.below hbn)
              have HBy := Lib.hid (HBz.out.trans (hbn.mono HBz.out.size))
              have HNy := Lib.hid hon.rd
              clear hbn hon
              go_wp2_with fail
              refine (pSame_any an a xs xs cn cap _ HNy.out HRy.out).mono ?_
              rw [HEL.out]
              rintro e wo ⟨rfl, hbo⟩
              have HBx := Lib.hid (HBy.out.trans (hbo.mono HBy.out.size))
              clear hbo
              go_wp2_with fail
              go_ret
              exact ⟨rfl, HBx.out⟩

theorem rd_of_trod {H : Type} {enc : TypeId × Value → H} {W : World} {fuel : Nat} {c : Value} {y : DataW H × List MemPlace}
    (h : DataW.trod enc Tryz.prog W 0 (fun _ => true) true fuel 24 [c] = some y) : ∃ (a : Option Addr) (xs : List Int) (cap : Nat), c = .slice a xs.length cap ∧ Rd W a xs ∧ ∀ k, k < xs.length → (Lit.int .i64 (nth xs k)).wf = true := by
  rcases Go.ChangeShapes.open_ints Tryz.underlying24 Tryz.underlying3 (by kernel_rfl) h with ⟨hcs, _⟩ | ⟨x, len, cap, zs, hcs, _, hl, hm, hz, _, hcell, hwf⟩
  · simp only [List.cons.injEq, and_true] at hcs
    exact ⟨none, [], 0, hcs, ⟨by simp, fun k hk => by simp at hk⟩, fun k hk => by simp at hk⟩
  · simp only [List.cons.injEq, and_true] at hcs
    simp only [if_true] at hz
    have hlen : (zs.take len).length = len := by rw [List.length_take]; omega
    have hn : ∀ k, k < len → nth (zs.take len) k = zs.getD k 0 := by
      intro k hk
      simp only [nth, List.getD_eq_getElem?_getD, List.getElem?_take, hk, if_true]
    refine ⟨some x, zs.take len, cap, by rw [hlen]; exact hcs, ⟨by rw [hlen]; unfold maxLen at hm; omega, fun k hk => ?_⟩, fun k hk => ?_⟩
    · rw [hlen] at hk
      obtain ⟨b, off, sp⟩ := x
      have h0 := hcell 0 (by omega)
      have hsp : sp = none := by simpa [Addr.add] using World.cell?_spot h0
      subst hsp
      have hk' := hcell k (by omega)
      rw [Addr.add_lit] at hk'
      exact ⟨b, off, rfl, World.block_lt_of_cell? _ _ h0, by rw [hk', hn k hk]⟩
    · rw [hlen] at hk
      rw [hn k hk]
      have hk2 : k < zs.length := by omega
      exact hwf _ (by rw [List.getD_eq_getElem?_getD, List.getElem?_eq_getElem hk2]; exact List.getElem_mem hk2)

theorem own : ownKnob Tryz.prog.godebug = none := by kernel_rfl
theorem laidOut : laidOutB Tryz.prog = true := by kernel_rfl
theorem wf_bd {n : Int} (h : (Lit.int .i64 n).wf = true) : -9223372036854775808 ≤ n ∧ n ≤ 9223372036854775807 := by
  simp [Lit.wf, IntKind.min, IntKind.max, IntKind.bits, IntKind.signed] at h
  omega

theorem wf_byte {n : Int} (h : (Lit.int .u8 n).wf = true) : 0 ≤ n ∧ n ≤ 255 := by
  simp [Lit.wf, IntKind.min, IntKind.max, IntKind.bits, IntKind.signed] at h
  omega
/-- a slice of bytes that was handed over -/
theorem rdB_of_trod {H : Type} {enc : TypeId × Value → H} {W : World} {fuel : Nat} {c : Value} {y : DataW H × List MemPlace}
    (h : DataW.trod enc Tryz.prog W 0 (fun _ => true) true fuel 22 [c] = some y) : ∃ (a : Option Addr) (n cap : Nat), c = .slice a n cap ∧ RdB W a n ∧ n ≤ 9223372036854775807 := by
  rcases Go.ChangeShapes.open_ints Tryz.underlying22 Tryz.underlying5 (by kernel_rfl) h with ⟨hcs, _⟩ | ⟨x, len, cap, zs, hcs, _, hl, hm, hz, _, hcell, hwf⟩
  · simp only [List.cons.injEq, and_true] at hcs
    exact ⟨none, 0, 0, hcs, ⟨fun k hk => by omega⟩, by omega⟩
  · simp only [List.cons.injEq, and_true] at hcs
    simp only [if_true] at hz
    refine ⟨some x, len, cap, hcs, ⟨fun k hk => ?_⟩, by unfold maxLen at hm; omega⟩
    obtain ⟨b, off, sp⟩ := x
    have h0 := hcell 0 (by omega)
    have hsp : sp = none := by simpa [Addr.add] using World.cell?_spot h0
    subst hsp
    have hk' := hcell k (by omega)
    rw [Addr.add_lit] at hk'
    have hk2 : k < zs.length := by omega
    have hw := hwf _ (show zs.getD k 0 ∈ zs by rw [List.getD_eq_getElem?_getD, List.getElem?_eq_getElem hk2]; exact List.getElem_mem hk2)
    refine ⟨b, off, rfl, World.block_lt_of_cell? _ _ h0, zs.getD k 0, hk', ?_⟩
    exact wf_byte hw

open Go.ChangeShapes Go.WideShapes Go.ChangeAt Go.RowKit in
set_option maxRecDepth 100000 in
theorem lifted (os : Os) (started : os.Started) (H : Type) (enc : TypeId × Value → H) :
    ReturnsInHanded {} Tryz.checked os 3 .any (Rows.fnAscentsBuildEndsSpec.pre6 enc Tryz.prog Tryz.f3 Rows.fnAscentsBuildEndsRow.domain false) (Rows.fnAscentsBuildEndsSpec.post enc Tryz.prog Tryz.f3 false true false false) := by
  refine returnsInHanded_of_change (C := Tryz.checked) own started (by kernel_rfl) Tryz.func3
    (ChangeSpec.witness6 (enc := enc) (C := Tryz.checked) false ⟨#[], #[.slice none 0 0, .slice none 0 0], []⟩ 8 (by kernel_rfl) (by kernel_rfl) (by kernel_rfl) (by kernel_rfl)) ?_
  intro W base args ds gs before hval0 hW hcnd _
  have hval : ∀ (j : Nat) t v, Tryz.f3.params[j]? = some t → args[j]? = some v → Value.okWide Tryz.prog W .any base t v := hval0
  have hW' := hW
  obtain ⟨p, q, hA0, hV, rfl, hfz, hnd⟩ := hW
  have hA : DataW.TrodAll enc Tryz.prog W 0 (fun _ => true) true Tryz.f3.params.toList args.toList ds p := hA0
  rw [Tryz.params3] at hA hval
  obtain ⟨v0, vs0, d0, ds0, p0, q0, hargs, rfl, rfl, h0, r0⟩ := trodAll_cons hA
  obtain ⟨v1, vs1, d1, ds1, p1, q1, rfl, rfl, rfl, h1, r1⟩ := trodAll_cons r0
  obtain ⟨rfl, rfl, rfl⟩ := trodAll_nil r1
  obtain rfl : args = #[v0, v1] := by cases args; simp_all
  obtain ⟨rfl, rfl⟩ := trodVars_none hV
  have lt0 : ∀ x ∈ p0, x.block < W.heap.size := by obtain ⟨m, hm⟩ := h0; exact DataW.trod_lt m _ _ _ hm
  have lt1 : ∀ x ∈ p1, x.block < W.heap.size := by obtain ⟨m, hm⟩ := h1; exact DataW.trod_lt m _ _ _ hm
  obtain ⟨a0, len0, cap0, rfl⟩ := okWide_slice Tryz.underlying22 (hval 0 22 v0 rfl rfl)
  obtain ⟨a0, n0, cap0, e0, rd0, ln0⟩ := (by obtain ⟨fu, hf⟩ := h0; simp only [Value.cells] at hf; exact rdB_of_trod hf : ∃ (a : Option Addr) (n cap : Nat), Value.slice a0 len0 cap0 = .slice a n cap ∧ RdB W a n ∧ n ≤ 9223372036854775807)
  simp only [Value.slice.injEq] at e0
  obtain ⟨rfl, rfl, rfl⟩ := e0
  obtain ⟨a1, len1, cap1, rfl⟩ := okWide_slice Tryz.underlying22 (hval 1 22 v1 rfl rfl)
  obtain ⟨a1, n1, cap1, e1, rd1, ln1⟩ := (by obtain ⟨fu, hf⟩ := h1; simp only [Value.cells] at hf; exact rdB_of_trod hf : ∃ (a : Option Addr) (n cap : Nat), Value.slice a1 len1 cap1 = .slice a n cap ∧ RdB W a n ∧ n ≤ 9223372036854775807)
  simp only [Value.slice.injEq] at e1
  obtain ⟨rfl, rfl, rfl⟩ := e1
  clear hA0 hval0
  refine (walk a0 len0 cap0 a1 len1 cap1 W rd0 ln0 rd1 ln1).mono fun e W' ⟨he, bel⟩ => ?_
  subst he
  exact ⟨_, rfl, _, _, _, [], _, [], hW', trodAll_mk1 (shut_bool Tryz.underlying4 _), (trodAll_cons_mk (Below.trod laidOut (by kernel_rfl) (of_decide_eq_true (by kernel_rfl)) h0 bel lt0) (trodAll_cons_mk (Below.trod laidOut (by kernel_rfl) (of_decide_eq_true (by kernel_rfl)) h1 bel lt1) trodAll_mk0)), rfl, bel.frame _, fun h => by cases h⟩
theorem proved : Rows.FnAscentsBuildEndsSaid :=
  OpenClaim.holds_of_wide 3 Tryz.f3 rfl rfl rfl rfl rfl rfl rfl ⟨rfl, rfl, rfl, rfl, rfl⟩ rfl rfl rfl rfl rfl (by kernel_rfl) Tryz.func3 (by kernel_rfl)
    (of_decide_eq_true (by kernel_rfl)) (by unfold Func.isWrapper; first | (rw [if_pos (by decide +kernel)]; kernel_rfl) | (rw [if_neg (by decide +kernel)]; exact ⟨rfl, rfl⟩))
    (fun os started H enc _ => lifted os started H enc)

end Go.Proofs.YtiodfmiielnngaaGreat.ascentsBuildEnds
