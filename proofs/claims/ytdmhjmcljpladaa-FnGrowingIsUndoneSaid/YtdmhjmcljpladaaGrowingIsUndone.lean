/- PROVED: the law FnGrowingIsUndone returns true for every input, and each of its arguments reads afterwards as before. No conditions. -/
import Derived.Test.YtdmhjmcljpladaaRows
import Derived.WalkKit
import Derived.WalkSpells
import Derived.WalkLawsBesides
import Derived.Deep.QuietTactic
import Derived.BigQuiet
import Derived.ProofKit
import Derived.OpenShut
import Derived.ShutString
import Derived.ChangeOld
import Derived.Below
import Derived.Lib.SmallJoins
import Derived.Lib.Hide
import Derived.Maps.AppendAt
import Derived.Deep.AppendLies
import Derived.Shelf.Small.Bits
import Derived.Shelf.Small.Wraps
import Derived.Shelf.Strconv.Itoa0
import Derived.Shelf.Sort.Plain
import Derived.Shelf.Slices.Reverse
import Derived.Shelf.Slices.Equal
import Derived.Shelf.Slices.CompactI
import Derived.Shelf.Slices.Delete
import Derived.Shelf.Slices.Cells
import Derived.Shelf.Slices.In.SortNone
import Derived.Shelf.Slices.Empties2
import Derived.Sort.OwnSortedInts
import Derived.Lib.SliceRun
import Derived.Deep.RegionLaw
import Derived.Deep.RegionHeld3
import Derived.Deep.DeepCutAuto
import Derived.StillTail
import Derived.Shelf.Spec.SlicesInsertGrow
import Derived.Test.YtdmhjmcljpladaaGrowingIsUndoneP3
namespace Go.Proofs.Ytdmhjmcljpladaa.growingIsUndone
open Go Go.RowKit
set_option linter.unusedVariables false
set_option linter.unusedSimpArgs false
set_option maxHeartbeats 400000
open Go.Shelf
set_option maxRecDepth 100000 in
set_option maxHeartbeats 8000000 in
theorem walk (a0 : Option Addr) (n0 cap0 : Nat) (a1 : Option Addr) (n1 cap1 : Nat) (w : World) (hR0 : RdB w a0 n0) (hl0 : n0 ≤ 9223372036854775807) (hR1 : RdB w a1 n1) (hl1 : n1 ≤ 9223372036854775807) :
    Calls Try.prog 6 #[.slice a0 n0 cap0, .slice a1 n1 cap1] w fun e w' => e = .returned (.bool true) ∧ Below w.heap.size w w' := by
  go_enter Try.func6, Try.ntmps6
  go_wp2_with fail
  refine (big_any _ _ _ _ _ _ _ hl0 hl1).mono ?_
  rintro e w' ⟨he, rfl⟩
  rcases he with rfl | ⟨rfl, hb0, hb1⟩
  · go_wp2_with fail
    go_ret
    exact ⟨rfl, (by repeat (first | exact Below.refl _ _ | assumption | refine Below.alloc ?_ (by first | exact Nat.le_refl _ | (simp only [World.size_alloc, World.size_setCell, World.size_drew]; omega) | omega) _ | refine Below.setCell ?_ (by first | exact Nat.le_refl _ | (simp only [World.size_alloc, World.size_setCell, World.size_drew]; omega) | omega) _ | refine Below.drew ?_))⟩
  · go_wp2_with fail
    refine (drGrow_any _ _ _ _ hR0 hb0).mono ?_
    rintro e w1 ⟨a, cap, xss, x, rfl, hx, hs, hxb, hb⟩
    have hxi : -9223372036854775808 ≤ x ∧ x ≤ 9223372036854775807 := by omega
    have HB := Lib.hid hb
    have HR := Lib.hid hx
    have HM := Lib.hid (hR1.below hb)
    clear hx hb hR0 hR1 hl0 hl1 hb0
    obtain ⟨O, hO⟩ : ∃ O, O = gwL xss x := ⟨_, rfl⟩
    obtain ⟨G, hG⟩ : ∃ G, G = gwB xss x := ⟨_, rfl⟩
    have hos : O.length + totS O O.length ≤ 1048576 := by rw [hO]; exact gwL_len _ _
    have HIG := Lib.hid (fun W (h : RdC W a xss) => iGrow_any a xss cap x W h hs hxi)
    have HSG := Lib.hid (fun W (h : RdC W a xss) => sGrow_any a xss cap x W h hs hxi)
    rw [← hO, ← hG] at HIG HSG
    have HOE := Lib.hid hO
    have HGE := Lib.hid hG
    have q1 : (G != G) = false := by simp
    clear hO hG
    have hol : O.length ≤ 1048576 := by omega
    have hxl : xss.length ≤ 1048576 := by omega
    have ba1 : Below w1.heap.size w1 (w1.alloc (.cells #[.slice a xss.length cap] 60)) := (Below.refl _ _).alloc (Nat.le_refl _) _
    have HA := Lib.hid (Box1.new w1 (.slice a xss.length cap) 60)
    replace HB := Lib.hid (HB.out.trans (ba1.mono HB.out.size))
    replace HR := Lib.hid (HR.out.below ba1)
    replace HM := Lib.hid (HM.out.below ba1)
    obtain ⟨v1, hv1⟩ : ∃ x : World, x = w1.alloc (.cells #[.slice a xss.length cap] 60) := ⟨_, rfl⟩
    have HV1 := Lib.hid hv1
    rw [← hv1] at HA HB HR HM
    clear ba1 hv1
    have cA := HA.out.2
    go_wp2_with fail
    rw [← HV1.out]
    clear cA
    have ⟨zA, cA⟩ := HA.out
    refine (HIG.out _ HR.out).mono ?_
    rintro e w3 ⟨a3, c3, l3, rfl, ho3, hb3⟩
    try clear zA cA
    replace HB := Lib.hid (HB.out.trans (hb3.mono HB.out.size))
    replace HA := Lib.hid (HA.out.below hb3)
    replace HR := Lib.hid (HR.out.below hb3)
    replace HM := Lib.hid (HM.out.below hb3)
    have ⟨zA, cA⟩ := HA.out
    clear hb3
    have HC := Lib.hid ho3.rdC
    clear ho3
    have ba3 : Below w3.heap.size w3 (w3.alloc (.cells #[.slice a3 O.length c3] 60)) := (Below.refl _ _).alloc (Nat.le_refl _) _
    have HO := Lib.hid (Box1.new w3 (.slice a3 O.length c3) 60)
    replace HB := Lib.hid (HB.out.trans (ba3.mono HB.out.size))
    replace HA := Lib.hid (HA.out.below ba3)
    replace HR := Lib.hid (HR.out.below ba3)
    replace HM := Lib.hid (HM.out.below ba3)
    replace HC := Lib.hid (HC.out.below ba3)
    obtain ⟨v3, hv3⟩ : ∃ x : World, x = w3.alloc (.cells #[.slice a3 O.length c3] 60) := ⟨_, rfl⟩
    have HV3 := Lib.hid hv3
    rw [← hv3] at HO HB HA HR HM HC
    clear ba3 hv3
    have cO := HO.out.2
    go_wp2_with fail
    rw [← HV3.out]
    try clear zA cA
    clear cO
    have ⟨zA, cA⟩ := HA.out
    have ⟨zO, cO⟩ := HO.out
    refine (HSG.out _ HR.out).mono ?_
    rintro e w4 ⟨a4, c4, l4, rfl, ho4, hb4⟩
    try clear zA cA
    try clear zO cO
    replace HB := Lib.hid (HB.out.trans (hb4.mono HB.out.size))
    replace HA := Lib.hid (HA.out.below hb4)
    replace HO := Lib.hid (HO.out.below hb4)
    replace HR := Lib.hid (HR.out.below hb4)
    replace HM := Lib.hid (HM.out.below hb4)
    replace HC := Lib.hid (HC.out.below hb4)
    have ⟨zA, cA⟩ := HA.out
    have ⟨zO, cO⟩ := HO.out
    clear hb4
    have HD := Lib.hid ho4.rdC
    clear ho4 HIG HSG
    have ba4 : Below w4.heap.size w4 (w4.alloc (.cells #[.slice a4 O.length c4] 60)) := (Below.refl _ _).alloc (Nat.le_refl _) _
    have HP := Lib.hid (Box1.new w4 (.slice a4 O.length c4) 60)
    replace HB := Lib.hid (HB.out.trans (ba4.mono HB.out.size))
    replace HA := Lib.hid (HA.out.below ba4)
    replace HO := Lib.hid (HO.out.below ba4)
    replace HR := Lib.hid (HR.out.below ba4)
    replace HM := Lib.hid (HM.out.below ba4)
    replace HC := Lib.hid (HC.out.below ba4)
    replace HD := Lib.hid (HD.out.below ba4)
    obtain ⟨v4, hv4⟩ : ∃ x : World, x = w4.alloc (.cells #[.slice a4 O.length c4] 60) := ⟨_, rfl⟩
    have HV4 := Lib.hid hv4
    rw [← hv4] at HP HB HA HO HR HM HC HD
    clear ba4 hv4
    have cP := HP.out.2
    go_wp2_with fail
    rw [← HV4.out]
    try clear zA cA
    try clear zO cO
    clear cP
    have ⟨zA, cA⟩ := HA.out
    have ⟨zO, cO⟩ := HO.out
    have ⟨zP, cP⟩ := HP.out
    refine ((pSameM_same a3 a4 O c3 c4 _ HC.out HD.out hol)).mono ?_
    rintro e w5 ⟨rfl, hb5⟩
    try clear zA cA
    try clear zO cO
    try clear zP cP
    replace HB := Lib.hid (HB.out.trans (hb5.mono HB.out.size))
    replace HA := Lib.hid (HA.out.below hb5)
    replace HO := Lib.hid (HO.out.below hb5)
    replace HP := Lib.hid (HP.out.below hb5)
    replace HR := Lib.hid (HR.out.below hb5)
    replace HM := Lib.hid (HM.out.below hb5)
    replace HC := Lib.hid (HC.out.below hb5)
    replace HD := Lib.hid (HD.out.below hb5)
    have ⟨zA, cA⟩ := HA.out
    have ⟨zO, cO⟩ := HO.out
    have ⟨zP, cP⟩ := HP.out
    clear hb5
    clear HD HP
    go_wp2_with fail
    refine (drShrink_any _ _ _ _ HM.out hb1).mono ?_
    rintro e w6 ⟨a6, c6, yss, rfl, hx6, ht6, hb6⟩
    try clear zA cA
    try clear zO cO
    replace HB := Lib.hid (HB.out.trans (hb6.mono HB.out.size))
    replace HA := Lib.hid (HA.out.below hb6)
    replace HO := Lib.hid (HO.out.below hb6)
    replace HR := Lib.hid (HR.out.below hb6)
    replace HM := Lib.hid (HM.out.below hb6)
    replace HC := Lib.hid (HC.out.below hb6)
    have ⟨zA, cA⟩ := HA.out
    have ⟨zO, cO⟩ := HO.out
    clear hb6
    have HY := Lib.hid hx6
    clear hx6 HM
    obtain ⟨Z, hZ⟩ : ∃ Z, Z = shL yss := ⟨_, rfl⟩
    obtain ⟨T, hT⟩ : ∃ T, T = topB yss := ⟨_, rfl⟩
    obtain ⟨v, hv⟩ : ∃ v, v = topV yss := ⟨_, rfl⟩
    have hzs : Z.length + totS Z Z.length ≤ 1048576 := by rw [hZ]; exact shL_len _
    have HIS := Lib.hid (fun W (h : RdC W a6 yss) => iShrink_any a6 yss c6 W h ht6)
    have HSS := Lib.hid (fun W (h : RdC W a6 yss) => sShrink_any a6 yss c6 W h ht6)
    rw [← hZ, ← hT, ← hv] at HIS HSS
    have HZE := Lib.hid hZ
    have HTE := Lib.hid hT
    have HVE := Lib.hid hv
    have q2 : (T != T) = false := by simp
    have q3 : (v != v) = false := by simp
    clear hZ hT hv
    have hzl : Z.length ≤ 1048576 := by omega
    have hyl : yss.length ≤ 1048576 := by omega
    have ba6 : Below w6.heap.size w6 (w6.alloc (.cells #[.slice a6 yss.length c6] 60)) := (Below.refl _ _).alloc (Nat.le_refl _) _
    have HS := Lib.hid (Box1.new w6 (.slice a6 yss.length c6) 60)
    replace HB := Lib.hid (HB.out.trans (ba6.mono HB.out.size))
    replace HA := Lib.hid (HA.out.below ba6)
    replace HO := Lib.hid (HO.out.below ba6)
    replace HR := Lib.hid (HR.out.below ba6)
    replace HC := Lib.hid (HC.out.below ba6)
    replace HY := Lib.hid (HY.out.below ba6)
    obtain ⟨v6, hv6⟩ : ∃ x : World, x = w6.alloc (.cells #[.slice a6 yss.length c6] 60) := ⟨_, rfl⟩
    have HV6 := Lib.hid hv6
    rw [← hv6] at HS HB HA HO HR HC HY
    clear ba6 hv6
    have cS := HS.out.2
    go_wp2_with fail
    rw [← HV6.out]
    try clear zA cA
    try clear zO cO
    clear cS
    have ⟨zA, cA⟩ := HA.out
    have ⟨zO, cO⟩ := HO.out
    have ⟨zS, cS⟩ := HS.out
    refine (HIS.out _ HY.out).mono ?_
    rintro e w7 ⟨a7, c7, l7, rfl, ho7, hb7⟩
    try clear zA cA
    try clear zO cO
    try clear zS cS
    replace HB := Lib.hid (HB.out.trans (hb7.mono HB.out.size))
    replace HA := Lib.hid (HA.out.below hb7)
    replace HO := Lib.hid (HO.out.below hb7)
    replace HS := Lib.hid (HS.out.below hb7)
    replace HR := Lib.hid (HR.out.below hb7)
    replace HC := Lib.hid (HC.out.below hb7)
    replace HY := Lib.hid (HY.out.below hb7)
    have ⟨zA, cA⟩ := HA.out
    have ⟨zO, cO⟩ := HO.out
    have ⟨zS, cS⟩ := HS.out
    clear hb7
    have HU := Lib.hid ho7.rdC
    clear ho7
    have ba7 : Below w7.heap.size w7 (w7.alloc (.cells #[.slice a7 Z.length c7] 60)) := (Below.refl _ _).alloc (Nat.le_refl _) _
    have HT := Lib.hid (Box1.new w7 (.slice a7 Z.length c7) 60)
    replace HB := Lib.hid (HB.out.trans (ba7.mono HB.out.size))
    replace HA := Lib.hid (HA.out.below ba7)
    replace HO := Lib.hid (HO.out.below ba7)
    replace HS := Lib.hid (HS.out.below ba7)
    replace HR := Lib.hid (HR.out.below ba7)
    replace HC := Lib.hid (HC.out.below ba7)
    replace HY := Lib.hid (HY.out.below ba7)
    replace HU := Lib.hid (HU.out.below ba7)
    obtain ⟨v7, hv7⟩ : ∃ x : World, x = w7.alloc (.cells #[.slice a7 Z.length c7] 60) := ⟨_, rfl⟩
    have HV7 := Lib.hid hv7
    rw [← hv7] at HT HB HA HO HS HR HC HY HU
    clear ba7 hv7
    have cT := HT.out.2
    go_wp2_with fail
    rw [← HV7.out]
    try clear zA cA
    try clear zO cO
    try clear zS cS
    clear cT
    have ⟨zA, cA⟩ := HA.out
    have ⟨zO, cO⟩ := HO.out
    have ⟨zS, cS⟩ := HS.out
    have ⟨zT, cT⟩ := HT.out
    refine (HSS.out _ HY.out).mono ?_
    rintro e w8 ⟨a8, c8, l8, rfl, ho8, hb8⟩
    try clear zA cA
    try clear zO cO
    try clear zS cS
    try clear zT cT
    replace HB := Lib.hid (HB.out.trans (hb8.mono HB.out.size))
    replace HA := Lib.hid (HA.out.below hb8)
    replace HO := Lib.hid (HO.out.below hb8)
    replace HS := Lib.hid (HS.out.below hb8)
    replace HT := Lib.hid (HT.out.below hb8)
    replace HR := Lib.hid (HR.out.below hb8)
    replace HC := Lib.hid (HC.out.below hb8)
    replace HY := Lib.hid (HY.out.below hb8)
    replace HU := Lib.hid (HU.out.below hb8)
    have ⟨zA, cA⟩ := HA.out
    have ⟨zO, cO⟩ := HO.out
    have ⟨zS, cS⟩ := HS.out
    have ⟨zT, cT⟩ := HT.out
    clear hb8
    have HD := Lib.hid ho8.rdC
    clear ho8 HIS HSS
    have ba8 : Below w8.heap.size w8 (w8.alloc (.cells #[.slice a8 Z.length c8] 60)) := (Below.refl _ _).alloc (Nat.le_refl _) _
    have HV := Lib.hid (Box1.new w8 (.slice a8 Z.length c8) 60)
    replace HB := Lib.hid (HB.out.trans (ba8.mono HB.out.size))
    replace HA := Lib.hid (HA.out.below ba8)
    replace HO := Lib.hid (HO.out.below ba8)
    replace HS := Lib.hid (HS.out.below ba8)
    replace HT := Lib.hid (HT.out.below ba8)
    replace HR := Lib.hid (HR.out.below ba8)
    replace HC := Lib.hid (HC.out.below ba8)
    replace HY := Lib.hid (HY.out.below ba8)
    replace HU := Lib.hid (HU.out.below ba8)
    replace HD := Lib.hid (HD.out.below ba8)
    obtain ⟨v8, hv8⟩ : ∃ x : World, x = w8.alloc (.cells #[.slice a8 Z.length c8] 60) := ⟨_, rfl⟩
    have HV8 := Lib.hid hv8
    rw [← hv8] at HV HB HA HO HS HT HR HC HY HU HD
    clear ba8 hv8
    have cV := HV.out.2
    go_wp2_with fail
    rw [← HV8.out]
    try clear zA cA
    try clear zO cO
    try clear zS cS
    try clear zT cT
    clear cV
    have ⟨zA, cA⟩ := HA.out
    have ⟨zO, cO⟩ := HO.out
    have ⟨zS, cS⟩ := HS.out
    have ⟨zT, cT⟩ := HT.out
    have ⟨zV, cV⟩ := HV.out
    refine ((pSameM_same a7 a8 Z c7 c8 _ HU.out HD.out hzl)).mono ?_
    rintro e w9 ⟨rfl, hb9⟩
    try clear zA cA
    try clear zO cO
    try clear zS cS
    try clear zT cT
    try clear zV cV
    replace HB := Lib.hid (HB.out.trans (hb9.mono HB.out.size))
    replace HA := Lib.hid (HA.out.below hb9)
    replace HO := Lib.hid (HO.out.below hb9)
    replace HS := Lib.hid (HS.out.below hb9)
    replace HT := Lib.hid (HT.out.below hb9)
    replace HV := Lib.hid (HV.out.below hb9)
    replace HR := Lib.hid (HR.out.below hb9)
    replace HC := Lib.hid (HC.out.below hb9)
    replace HY := Lib.hid (HY.out.below hb9)
    replace HU := Lib.hid (HU.out.below hb9)
    replace HD := Lib.hid (HD.out.below hb9)
    have ⟨zA, cA⟩ := HA.out
    have ⟨zO, cO⟩ := HO.out
    have ⟨zS, cS⟩ := HS.out
    have ⟨zT, cT⟩ := HT.out
    have ⟨zV, cV⟩ := HV.out
    clear hb9
    clear HD HV
    try clear zV cV
    cases hTT : T
    case' false =>
      obtain ⟨w11, e11⟩ : ∃ y, y = w9 := ⟨_, rfl⟩
      subst e11
      clear HY HU HS HT
      try clear zS cS
      try clear zT cT
    case' true =>
      have htb : topB yss = true := by rw [← HTE.out]; exact hTT
      have hgs := gr_sh htb
      have hvn : v = ((topN yss : Nat) : Int) := by rw [HVE.out, topV, if_pos htb]
      rw [← hvn] at hgs
      have hgl : gwL Z v = yss := by rw [HZE.out, gwL, if_pos hgs.1, hvn, Int.toNat_natCast]; exact hgs.2
      have hgb : gwB Z v = true := by rw [HZE.out]; exact hgs.1
      have hvb : -9223372036854775808 ≤ v ∧ v ≤ 9223372036854775807 := by
        have := topN_lt (topB_mx htb).1 (topB_mx htb).2
        omega
      have HGR : Hid (∀ W, RdC W a7 Z → Calls Try.prog 40 #[.agg #[.slice a7 Z.length c7], .int .i64 v] W fun e w' => ∃ a0 c0 vl, e = .returned (.tuple #[.agg #[.slice a0 yss.length c0], .bool true]) ∧ RowsP w' W.heap.size (.slice a0 yss.length c0) vl yss ∧ Below W.heap.size W w') := fun W h => by
        have := iGrow_any a7 Z c7 v W h hzs hvb
        rw [hgl, hgb] at this
        exact this
      clear htb hgs hvn hgl hgb
      go_wp2_with fail
      refine (HGR.out _ HU.out).mono ?_
      rintro e w10 ⟨a10, c10, l10, rfl, ho10, hb10⟩
      try clear zA cA
      try clear zO cO
      try clear zS cS
      try clear zT cT
      replace HB := Lib.hid (HB.out.trans (hb10.mono HB.out.size))
      replace HA := Lib.hid (HA.out.below hb10)
      replace HO := Lib.hid (HO.out.below hb10)
      replace HS := Lib.hid (HS.out.below hb10)
      replace HT := Lib.hid (HT.out.below hb10)
      replace HR := Lib.hid (HR.out.below hb10)
      replace HC := Lib.hid (HC.out.below hb10)
      replace HY := Lib.hid (HY.out.below hb10)
      replace HU := Lib.hid (HU.out.below hb10)
      have ⟨zA, cA⟩ := HA.out
      have ⟨zO, cO⟩ := HO.out
      have ⟨zS, cS⟩ := HS.out
      have ⟨zT, cT⟩ := HT.out
      clear hb10
      have HD := Lib.hid ho10.rdC
      clear ho10 HGR
      have ba10 : Below w10.heap.size w10 (w10.alloc (.cells #[.slice a10 yss.length c10] 60)) := (Below.refl _ _).alloc (Nat.le_refl _) _
      have HV := Lib.hid (Box1.new w10 (.slice a10 yss.length c10) 60)
      replace HB := Lib.hid (HB.out.trans (ba10.mono HB.out.size))
      replace HA := Lib.hid (HA.out.below ba10)
      replace HO := Lib.hid (HO.out.below ba10)
      replace HS := Lib.hid (HS.out.below ba10)
      replace HR := Lib.hid (HR.out.below ba10)
      replace HC := Lib.hid (HC.out.below ba10)
      replace HY := Lib.hid (HY.out.below ba10)
      replace HD := Lib.hid (HD.out.below ba10)
      obtain ⟨v10, hv10⟩ : ∃ x : World, x = w10.alloc (.cells #[.slice a10 yss.length c10] 60) := ⟨_, rfl⟩
      have HV10 := Lib.hid hv10
      rw [← hv10] at HV HB HA HO HS HR HC HY HD
      clear ba10 hv10
      have cV := HV.out.2
      go_wp2_with fail
      rw [← HV10.out]
      try clear zA cA
      try clear zO cO
      try clear zS cS
      clear cV
      have ⟨zA, cA⟩ := HA.out
      have ⟨zO, cO⟩ := HO.out
      have ⟨zS, cS⟩ := HS.out
      have ⟨zV, cV⟩ := HV.out
      refine ((pSameM_same a10 a6 yss c10 c6 _ HD.out HY.out hyl)).mono ?_
      rintro e w11 ⟨rfl, hb11⟩
      try clear zA cA
      try clear zO cO
      try clear zS cS
      try clear zV cV
      replace HB := Lib.hid (HB.out.trans (hb11.mono HB.out.size))
      replace HA := Lib.hid (HA.out.below hb11)
      replace HO := Lib.hid (HO.out.below hb11)
      replace HS := Lib.hid (HS.out.below hb11)
      replace HV := Lib.hid (HV.out.below hb11)
      replace HR := Lib.hid (HR.out.below hb11)
      replace HC := Lib.hid (HC.out.below hb11)
      replace HY := Lib.hid (HY.out.below hb11)
      replace HD := Lib.hid (HD.out.below hb11)
      have ⟨zA, cA⟩ := HA.out
      have ⟨zO, cO⟩ := HO.out
      have ⟨zS, cS⟩ := HS.out
      have ⟨zV, cV⟩ := HV.out
      clear hb11
      clear HD HY HU HS HT HV
      try clear zS cS
      try clear zT cT
      try clear zV cV
    all_goals
      clear HZE HTE HVE hTT q2 q3
      cases hGG : G
      · go_wp2_with fail
        go_ret
        exact ⟨rfl, HB.out⟩
      · have hgb : gwB xss x = true := by rw [← HGE.out]; exact hGG
        have ⟨hm, hx0, hx1, hsm⟩ := gwB_iff.1 hgb
        obtain ⟨X, rfl⟩ := Int.eq_ofNat_of_zero_le hx0
        have hO2 : O = grL xss X := by rw [HOE.out, gwL, if_pos hgb, Int.toNat_natCast]
        have hsg := sh_gr hm (x := X) (by omega) hsm
        have hgm := gr_mx hm (x := X) (by omega) hsm
        have hgl := grL_len (xss := xss) (x := X)
        rw [← hO2] at hsg hgm hgl
        have htv : topV O = (X : Int) := by rw [topV, if_pos hsg.1, hsg.2.1]
        have hs1 : smV xss = matS xss xss.length := by rw [smV, if_pos hm]
        have hs2 : smV O = matS xss xss.length + 1 := by rw [smV, if_pos hgm.1, hgm.2.1]
        have hs0 : 0 ≤ matS xss xss.length := matS_nn (fun j hj => by have := (adB_row (mxB_iff.1 hm).1 hj).1; omega)
        have HSH : Hid (∀ W, RdC W a3 O → Calls Try.prog 44 #[.agg #[.slice a3 O.length c3]] W fun e w' => ∃ a0 c0 vl, e = .returned (.tuple #[.agg #[.slice a0 xss.length c0], .int .i64 (X : Int), .bool true]) ∧ RowsP w' W.heap.size (.slice a0 xss.length c0) vl xss ∧ Below W.heap.size W w') := fun W h => by
          have := iShrink_any a3 O c3 W h hos
          rw [hsg.2.2, htv, hsg.1] at this
          exact this
        have HTO : Hid (∀ W, RdC W a3 O → Calls Try.prog 46 #[.agg #[.slice a3 O.length c3]] W fun e w' => e = .returned (.tuple #[.int .i64 (X : Int), .bool true]) ∧ Below W.heap.size W w') := fun W h => by
          have := iTopMx_any a3 O c3 W h hos
          rw [htv, hsg.1] at this
          exact this
        have HTM : Hid (∀ W, RdC W a xss → Calls Try.prog 46 #[.agg #[.slice a xss.length cap]] W fun e w' => e = .returned (.tuple #[.int .i64 (topV xss), .bool (topB xss)]) ∧ Below W.heap.size W w') := fun W h => iTopMx_any a xss cap W h hs
        have HS1 : Hid (∀ W, RdC W a xss → Calls Try.prog 47 #[.agg #[.slice a xss.length cap]] W fun e w' => e = .returned (.tuple #[.int .i64 (matS xss xss.length), .bool true]) ∧ Below W.heap.size W w') := fun W h => by
          have := iSumMx_any a xss cap W h hs
          rw [hs1, hm] at this
          exact this
        have HS2 : Hid (∀ W, RdC W a3 O → Calls Try.prog 47 #[.agg #[.slice a3 O.length c3]] W fun e w' => e = .returned (.tuple #[.int .i64 (matS xss xss.length + 1), .bool true]) ∧ Below W.heap.size W w') := fun W h => by
          have := iSumMx_any a3 O c3 W h hos
          rw [hs2, hgm.1] at this
          exact this
        have HIM : Hid (∀ W, RdC W a3 O → Calls Try.prog 48 #[.agg #[.slice a3 O.length c3]] W fun e w' => e = .returned (.bool true) ∧ Below W.heap.size W w') := fun W h => by
          have := iIsMatrix_any a3 O c3 W h hos
          rw [hgm.1] at this
          exact this
        have hend : (topB xss = false ∧ xss.length = 0 ∧ O.length = 1) ∨ (topB xss = true ∧ (((X : Int) ≤ topV xss ∧ O.length = xss.length) ∨ (topV xss < (X : Int) ∧ O.length = xss.length + 1))) := by
          cases htb : topB xss
          · left
            have h0 : xss.length = 0 := by
              simp only [topB, hm, Bool.true_and, decide_eq_false_iff_not] at htb
              omega
            rw [topI, if_pos h0, if_neg (by omega)] at hgl
            exact ⟨rfl, h0, by omega⟩
          · right
            have hp := (topB_mx htb).2
            have e1 : topI xss = topV xss := by rw [topI, topV, if_neg (by omega), if_pos htb]
            rw [e1] at hgl
            refine ⟨rfl, ?_⟩
            by_cases h : (X : Int) ≤ topV xss
            · rw [if_pos h] at hgl; exact .inl ⟨h, hgl⟩
            · rw [if_neg h] at hgl; exact .inr ⟨by omega, hgl⟩
        generalize matS xss xss.length = n9 at HS1 HS2 hs0 hsm
        have HEND := Lib.hid hend
        have h12 : xss.length ≤ 12 := mxB_small hm
        have ho12 : O.length ≤ 13 := by rcases hend with h | h <;> omega
        clear hgb hm hO2 hsg hgm hgl htv hs1 hs2 hend HOE HGE hGG q1 hos
        have q4 : ((X : Int) != (X : Int)) = false := by simp
        have q5 : (n9 + 1 != n9 + 1) = false := by simp
        go_wp2_with fail
        refine (HSH.out _ HC.out).mono ?_
        rintro e w12 ⟨a12, c12, l12, rfl, ho12, hb12⟩
        try clear zA cA
        try clear zO cO
        replace HB := Lib.hid (HB.out.trans (hb12.mono HB.out.size))
        replace HA := Lib.hid (HA.out.below hb12)
        replace HO := Lib.hid (HO.out.below hb12)
        replace HR := Lib.hid (HR.out.below hb12)
        replace HC := Lib.hid (HC.out.below hb12)
        have ⟨zA, cA⟩ := HA.out
        have ⟨zO, cO⟩ := HO.out
        clear hb12
        have HD := Lib.hid ho12.rdC
        clear ho12 HSH
        have ba12 : Below w12.heap.size w12 (w12.alloc (.cells #[.slice a12 xss.length c12] 60)) := (Below.refl _ _).alloc (Nat.le_refl _) _
        have HN := Lib.hid (Box1.new w12 (.slice a12 xss.length c12) 60)
        replace HB := Lib.hid (HB.out.trans (ba12.mono HB.out.size))
        replace HA := Lib.hid (HA.out.below ba12)
        replace HO := Lib.hid (HO.out.below ba12)
        replace HR := Lib.hid (HR.out.below ba12)
        replace HC := Lib.hid (HC.out.below ba12)
        replace HD := Lib.hid (HD.out.below ba12)
        obtain ⟨v12, hv12⟩ : ∃ x : World, x = w12.alloc (.cells #[.slice a12 xss.length c12] 60) := ⟨_, rfl⟩
        have HV12 := Lib.hid hv12
        rw [← hv12] at HN HB HA HO HR HC HD
        clear ba12 hv12
        have cN := HN.out.2
        go_wp2_with fail
        rw [← HV12.out]
        try clear zA cA
        try clear zO cO
        clear cN
        have ⟨zA, cA⟩ := HA.out
        have ⟨zO, cO⟩ := HO.out
        have ⟨zN, cN⟩ := HN.out
        refine (HTO.out _ HC.out).mono ?_
        rintro e w13 ⟨rfl, hb13⟩
        try clear zA cA
        try clear zO cO
        try clear zN cN
        replace HB := Lib.hid (HB.out.trans (hb13.mono HB.out.size))
        replace HA := Lib.hid (HA.out.below hb13)
        replace HO := Lib.hid (HO.out.below hb13)
        replace HN := Lib.hid (HN.out.below hb13)
        replace HR := Lib.hid (HR.out.below hb13)
        replace HC := Lib.hid (HC.out.below hb13)
        replace HD := Lib.hid (HD.out.below hb13)
        have ⟨zA, cA⟩ := HA.out
        have ⟨zO, cO⟩ := HO.out
        have ⟨zN, cN⟩ := HN.out
        clear hb13
        go_wp2_with fail
        refine (HTM.out _ HR.out).mono ?_
        rintro e w14 ⟨rfl, hb14⟩
        try clear zA cA
        try clear zO cO
        try clear zN cN
        replace HB := Lib.hid (HB.out.trans (hb14.mono HB.out.size))
        replace HA := Lib.hid (HA.out.below hb14)
        replace HO := Lib.hid (HO.out.below hb14)
        replace HN := Lib.hid (HN.out.below hb14)
        replace HR := Lib.hid (HR.out.below hb14)
        replace HC := Lib.hid (HC.out.below hb14)
        replace HD := Lib.hid (HD.out.below hb14)
        have ⟨zA, cA⟩ := HA.out
        have ⟨zO, cO⟩ := HO.out
        have ⟨zN, cN⟩ := HN.out
        clear hb14
        go_wp2_with fail
        refine (HS1.out _ HR.out).mono ?_
        rintro e w15 ⟨rfl, hb15⟩
        try clear zA cA
        try clear zO cO
        try clear zN cN
        replace HB := Lib.hid (HB.out.trans (hb15.mono HB.out.size))
        replace HA := Lib.hid (HA.out.below hb15)
        replace HO := Lib.hid (HO.out.below hb15)
        replace HN := Lib.hid (HN.out.below hb15)
        replace HR := Lib.hid (HR.out.below hb15)
        replace HC := Lib.hid (HC.out.below hb15)
        replace HD := Lib.hid (HD.out.below hb15)
        have ⟨zA, cA⟩ := HA.out
        have ⟨zO, cO⟩ := HO.out
        have ⟨zN, cN⟩ := HN.out
        clear hb15
        go_wp2_with fail
        refine (HS2.out _ HC.out).mono ?_
        rintro e w16 ⟨rfl, hb16⟩
        try clear zA cA
        try clear zO cO
        try clear zN cN
        replace HB := Lib.hid (HB.out.trans (hb16.mono HB.out.size))
        replace HA := Lib.hid (HA.out.below hb16)
        replace HO := Lib.hid (HO.out.below hb16)
        replace HN := Lib.hid (HN.out.below hb16)
        replace HR := Lib.hid (HR.out.below hb16)
        replace HC := Lib.hid (HC.out.below hb16)
        replace HD := Lib.hid (HD.out.below hb16)
        have ⟨zA, cA⟩ := HA.out
        have ⟨zO, cO⟩ := HO.out
        have ⟨zN, cN⟩ := HN.out
        clear hb16
        go_wp2_with fail
        refine ((pSameM_same a12 a xss c12 cap _ HD.out HR.out hxl)).mono ?_
        rintro e w17 ⟨rfl, hb17⟩
        try clear zA cA
        try clear zO cO
        try clear zN cN
        replace HB := Lib.hid (HB.out.trans (hb17.mono HB.out.size))
        replace HA := Lib.hid (HA.out.below hb17)
        replace HO := Lib.hid (HO.out.below hb17)
        replace HN := Lib.hid (HN.out.below hb17)
        replace HR := Lib.hid (HR.out.below hb17)
        replace HC := Lib.hid (HC.out.below hb17)
        replace HD := Lib.hid (HD.out.below hb17)
        have ⟨zA, cA⟩ := HA.out
        have ⟨zO, cO⟩ := HO.out
        have ⟨zN, cN⟩ := HN.out
        clear hb17
        go_wp2_with fail
        refine (HIM.out _ HC.out).mono ?_
        rintro e w18 ⟨rfl, hb18⟩
        try clear zA cA
        try clear zO cO
        try clear zN cN
        replace HB := Lib.hid (HB.out.trans (hb18.mono HB.out.size))
        replace HA := Lib.hid (HA.out.below hb18)
        replace HO := Lib.hid (HO.out.below hb18)
        replace HN := Lib.hid (HN.out.below hb18)
        replace HR := Lib.hid (HR.out.below hb18)
        replace HC := Lib.hid (HC.out.below hb18)
        replace HD := Lib.hid (HD.out.below hb18)
        have ⟨zA, cA⟩ := HA.out
        have ⟨zO, cO⟩ := HO.out
        have ⟨zN, cN⟩ := HN.out
        clear hb18
        have hend := HEND.out
        clear HTO HTM HS1 HS2 HIM HEND HD HR HC HN
        try clear zN cN
        have HAO : Hid (Box1 w18 w1.heap.size (.slice a xss.length cap) ∧ Box1 w18 w3.heap.size (.slice a3 O.length c3)) := ⟨HA.out, HO.out⟩
        clear HA HO
        generalize topB xss = tb at hend ⊢
        generalize topV xss = tv at hend ⊢
        generalize xss.length = k at *
        generalize O.length = o at *
        rcases hend with ⟨rfl, rfl, rfl⟩ | ⟨rfl, (⟨h1, rfl⟩ | ⟨h1, rfl⟩)⟩
        · go_wp2_with fail
          go_ret
          exact ⟨rfl, HB.out⟩
        · go_wp2_with fail
          go_ret
          exact ⟨rfl, HB.out⟩
        · have hn1 : ¬ (X : Int) ≤ tv := by omega
          have hn2 : tv < (X : Int) := h1
          go_wp2_with fail
          go_ret
          refine ⟨?_, HB.out⟩
          congr 1
          simp
          omega

theorem rd_of_trod {H : Type} {enc : TypeId × Value → H} {W : World} {fuel : Nat} {c : Value} {y : DataW H × List MemPlace}
    (h : DataW.trod enc Try.prog W 0 (fun _ => true) true fuel 26 [c] = some y) : ∃ (a : Option Addr) (xs : List Int) (cap : Nat), c = .slice a xs.length cap ∧ Rd W a xs ∧ ∀ k, k < xs.length → (Lit.int .i64 (nth xs k)).wf = true := by
  rcases Go.ChangeShapes.open_ints Try.underlying26 Try.underlying3 (by kernel_rfl) h with ⟨hcs, _⟩ | ⟨x, len, cap, zs, hcs, _, hl, hm, hz, _, hcell, hwf⟩
  · simp only [List.cons.injEq, and_true] at hcs
    exact ⟨none, [], 0, hcs, ⟨by simp, fun k hk => by simp at hk⟩, fun k hk => by simp at hk⟩
  · simp only [List.cons.injEq, and_true] at hcs
    simp only [if_true] at hz
    have hlen : (zs.take len).length = len := by rw [List.length_take]; omega
    have hn : ∀ k, k < len → nth (zs.take len) k = zs.getD k 0 := by
      intro k hk
      simp only [nth, List.getD_eq_getElem?_getD, List.getElem?_take, hk, if_true]
    refine ⟨some x, zs.take len, cap, by rw [hlen]; exact hcs, ⟨by rw [hlen]; unfold maxLen at hm; omega, fun k hk => ?_⟩, fun k hk => ?_⟩
    · rw [hlen] at hk
      obtain ⟨b, off, sp⟩ := x
      have h0 := hcell 0 (by omega)
      have hsp : sp = none := by simpa [Addr.add] using World.cell?_spot h0
      subst hsp
      have hk' := hcell k (by omega)
      rw [Addr.add_lit] at hk'
      exact ⟨b, off, rfl, World.block_lt_of_cell? _ _ h0, by rw [hk', hn k hk]⟩
    · rw [hlen] at hk
      rw [hn k hk]
      have hk2 : k < zs.length := by omega
      exact hwf _ (by rw [List.getD_eq_getElem?_getD, List.getElem?_eq_getElem hk2]; exact List.getElem_mem hk2)

theorem own : ownKnob Try.prog.godebug = none := by kernel_rfl
theorem laidOut : laidOutB Try.prog = true := by kernel_rfl
theorem wf_bd {n : Int} (h : (Lit.int .i64 n).wf = true) : -9223372036854775808 ≤ n ∧ n ≤ 9223372036854775807 := by
  simp [Lit.wf, IntKind.min, IntKind.max, IntKind.bits, IntKind.signed] at h
  omega

theorem wf_byte {n : Int} (h : (Lit.int .u8 n).wf = true) : 0 ≤ n ∧ n ≤ 255 := by
  simp [Lit.wf, IntKind.min, IntKind.max, IntKind.bits, IntKind.signed] at h
  omega
/-- a slice of bytes that was handed over -/
theorem rdB_of_trod {H : Type} {enc : TypeId × Value → H} {W : World} {fuel : Nat} {c : Value} {y : DataW H × List MemPlace}
    (h : DataW.trod enc Try.prog W 0 (fun _ => true) true fuel 22 [c] = some y) : ∃ (a : Option Addr) (n cap : Nat), c = .slice a n cap ∧ RdB W a n ∧ n ≤ 9223372036854775807 := by
  rcases Go.ChangeShapes.open_ints Try.underlying22 Try.underlying5 (by kernel_rfl) h with ⟨hcs, _⟩ | ⟨x, len, cap, zs, hcs, _, hl, hm, hz, _, hcell, hwf⟩
  · simp only [List.cons.injEq, and_true] at hcs
    exact ⟨none, 0, 0, hcs, ⟨fun k hk => by omega⟩, by omega⟩
  · simp only [List.cons.injEq, and_true] at hcs
    simp only [if_true] at hz
    refine ⟨some x, len, cap, hcs, ⟨fun k hk => ?_⟩, by unfold maxLen at hm; omega⟩
    obtain ⟨b, off, sp⟩ := x
    have h0 := hcell 0 (by omega)
    have hsp : sp = none := by simpa [Addr.add] using World.cell?_spot h0
    subst hsp
    have hk' := hcell k (by omega)
    rw [Addr.add_lit] at hk'
    have hk2 : k < zs.length := by omega
    have hw := hwf _ (show zs.getD k 0 ∈ zs by rw [List.getD_eq_getElem?_getD, List.getElem?_eq_getElem hk2]; exact List.getElem_mem hk2)
    refine ⟨b, off, rfl, World.block_lt_of_cell? _ _ h0, zs.getD k 0, hk', ?_⟩
    exact wf_byte hw

open Go.ChangeShapes Go.WideShapes Go.ChangeAt Go.RowKit in
set_option maxRecDepth 100000 in
theorem lifted (os : Os) (started : os.Started) (H : Type) (enc : TypeId × Value → H) :
    ReturnsInHanded {} Try.checked os 6 .any (Rows.fnGrowingIsUndoneSpec.pre6 enc Try.prog Try.f6 Rows.fnGrowingIsUndoneRow.domain false) (Rows.fnGrowingIsUndoneSpec.post enc Try.prog Try.f6 false true false false) := by
  refine returnsInHanded_of_change (C := Try.checked) own started (by kernel_rfl) Try.func6
    (ChangeSpec.witness6 (enc := enc) (C := Try.checked) false ⟨#[], #[.slice none 0 0, .slice none 0 0], []⟩ 8 (by kernel_rfl) (by kernel_rfl) (by kernel_rfl) (by kernel_rfl)) ?_
  intro W base args ds gs before hval0 hW hcnd _
  have hval : ∀ (j : Nat) t v, Try.f6.params[j]? = some t → args[j]? = some v → Value.okWide Try.prog W .any base t v := hval0
  have hW' := hW
  obtain ⟨p, q, hA0, hV, rfl, hfz, hnd⟩ := hW
  have hA : DataW.TrodAll enc Try.prog W 0 (fun _ => true) true Try.f6.params.toList args.toList ds p := hA0
  rw [Try.params6] at hA hval
  obtain ⟨v0, vs0, d0, ds0, p0, q0, hargs, rfl, rfl, h0, r0⟩ := trodAll_cons hA
  obtain ⟨v1, vs1, d1, ds1, p1, q1, rfl, rfl, rfl, h1, r1⟩ := trodAll_cons r0
  obtain ⟨rfl, rfl, rfl⟩ := trodAll_nil r1
  obtain rfl : args = #[v0, v1] := by cases args; simp_all
  obtain ⟨rfl, rfl⟩ := trodVars_none hV
  have lt0 : ∀ x ∈ p0, x.block < W.heap.size := by obtain ⟨m, hm⟩ := h0; exact DataW.trod_lt m _ _ _ hm
  have lt1 : ∀ x ∈ p1, x.block < W.heap.size := by obtain ⟨m, hm⟩ := h1; exact DataW.trod_lt m _ _ _ hm
  obtain ⟨a0, len0, cap0, rfl⟩ := okWide_slice Try.underlying22 (hval 0 22 v0 rfl rfl)
  obtain ⟨a0, n0, cap0, e0, rd0, ln0⟩ := (by obtain ⟨fu, hf⟩ := h0; simp only [Value.cells] at hf; exact rdB_of_trod hf : ∃ (a : Option Addr) (n cap : Nat), Value.slice a0 len0 cap0 = .slice a n cap ∧ RdB W a n ∧ n ≤ 9223372036854775807)
  simp only [Value.slice.injEq] at e0
  obtain ⟨rfl, rfl, rfl⟩ := e0
  obtain ⟨a1, len1, cap1, rfl⟩ := okWide_slice Try.underlying22 (hval 1 22 v1 rfl rfl)
  obtain ⟨a1, n1, cap1, e1, rd1, ln1⟩ := (by obtain ⟨fu, hf⟩ := h1; simp only [Value.cells] at hf; exact rdB_of_trod hf : ∃ (a : Option Addr) (n cap : Nat), Value.slice a1 len1 cap1 = .slice a n cap ∧ RdB W a n ∧ n ≤ 9223372036854775807)
  simp only [Value.slice.injEq] at e1
  obtain ⟨rfl, rfl, rfl⟩ := e1
  clear hA0 hval0
  refine (walk a0 len0 cap0 a1 len1 cap1 W rd0 ln0 rd1 ln1).mono fun e W' ⟨he, bel⟩ => ?_
  subst he
  exact ⟨_, rfl, _, _, _, [], _, [], hW', trodAll_mk1 (shut_bool Try.underlying4 _), (trodAll_cons_mk (Below.trod laidOut (by kernel_rfl) (of_decide_eq_true (by kernel_rfl)) h0 bel lt0) (trodAll_cons_mk (Below.trod laidOut (by kernel_rfl) (of_decide_eq_true (by kernel_rfl)) h1 bel lt1) trodAll_mk0)), rfl, bel.frame _, fun h => by cases h⟩
theorem proved : Rows.FnGrowingIsUndoneSaid :=
  OpenClaim.holds_of_wide 6 Try.f6 rfl rfl rfl rfl rfl rfl rfl ⟨rfl, rfl, rfl, rfl, rfl⟩ rfl rfl rfl rfl rfl (by kernel_rfl) Try.func6 (by kernel_rfl)
    (of_decide_eq_true (by kernel_rfl)) (by unfold Func.isWrapper; first | (rw [if_pos (by decide +kernel)]; kernel_rfl) | (rw [if_neg (by decide +kernel)]; exact ⟨rfl, rfl⟩))
    (fun os started H enc _ => lifted os started H enc)

end Go.Proofs.Ytdmhjmcljpladaa.growingIsUndone
