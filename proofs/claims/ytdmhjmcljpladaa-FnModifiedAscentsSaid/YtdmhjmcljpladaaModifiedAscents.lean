/- PROVED: the law FnModifiedAscents returns true for every input, and each of its arguments reads afterwards as before. No conditions. -/
import Derived.Test.YtdmhjmcljpladaaRows
import Derived.WalkKit
import Derived.WalkSpells
import Derived.WalkLawsBesides
import Derived.Deep.QuietTactic
import Derived.BigQuiet
import Derived.ProofKit
import Derived.OpenShut
import Derived.ShutString
import Derived.ChangeOld
import Derived.Below
import Derived.Lib.SmallJoins
import Derived.Lib.Hide
import Derived.Maps.AppendAt
import Derived.Deep.AppendLies
import Derived.Deep.RegionHeld3
import Derived.Deep.DeepCutAuto
import Derived.StillTail
import Derived.Lib.SliceRun
import Derived.Test.YtdmhjmcljpladaaModifiedAscentsP1
namespace Go.Proofs.Ytdmhjmcljpladaa.modifiedAscents
open Go Go.RowKit
set_option linter.unusedVariables false
set_option linter.unusedSimpArgs false
set_option maxHeartbeats 400000
theorem iIsAscent_any (a : Option Addr) (xs : List Int) (cap : Nat) (w : World) (hx : Rd w a xs) :
    Calls Try.prog 86 #[.slice a xs.length cap] w fun e w' => e = .returned (.bool (ascB xs)) ∧ Below w.heap.size w w' := by
  have hlen := hx.len
  by_cases hl : xs.length ≤ 12
  · go_enter Try.func86, Try.ntmps86
    go_wp2_with fail
    refine (noClimb_any _).mono ?_
    rintro e w1 ⟨rfl, hb1⟩
    have hz1 := hb1.size
    have V1 : Var2 (w1.alloc (.cells #[.int .i64 (-1), .int .i64 (-1)] 138)) w1.heap.size (.int .i64 (-1)) (.int .i64 (-1)) := Var2.new w1 _ _ _
    have b2 : Below w.heap.size w (w1.alloc (.cells #[.int .i64 (-1), .int .i64 (-1)] 138)) := hb1.alloc hz1 _
    go_wp2_with fail
    obtain ⟨g, hg⟩ : ∃ g, g = w1.heap.size := ⟨_, rfl⟩
    rw [← hg] at V1 hz1 ⊢
    clear hg
    go_loopw [12] (fun i wr => ∃ k : Nat, k ≤ xs.length ∧ i = .int .i64 k ∧ (∀ j, j < k → ascOk xs j = true) ∧ Var2 wr g (.int .i64 (clLast xs k)) (.int .i64 (clAsc xs k)) ∧ Below w.heap.size w wr) (fun i _ => xs.length - (intOf i).toNat)
    case atStart => exact ⟨0, Nat.zero_le _, rfl, fun j hj => by omega, V1, b2⟩
    case round =>
      clear V1 b2 hb1
      obtain ⟨k, hk, rfl, hall, hV, hb⟩ := hrel
      have HA := Lib.hid hall
      have ⟨⟨zV, cV, dV⟩, fV, gV⟩ := hV
      have ⟨ca0, ca1⟩ := clAsc_lt xs k
      clear hall
      by_cases hlt : k < xs.length
      · have hxr := hx.below hb
        obtain ⟨b, off, rfl, hbl, hc⟩ := hxr.cell k hlt
        by_cases h0 : nth xs k < 0
        · have HO : Hid (ascB xs = false) := ascB_no hlt (by rw [ascOk, inB_no]; omega)
          go_wp2_with fail
          go_ret
          exact ⟨ret_bool HO.out.symm, hb⟩
        · by_cases h1 : clAsc xs k + 1 < nth xs k
          · have HO : Hid (ascB xs = false) := ascB_no hlt (by rw [ascOk, inB_no, ← clAsc_bnd]; omega)
            go_wp2_with fail
            refine (greatest_any _ _ _ ca0 (by omega)).mono ?_
            rintro e w2 ⟨rfl, hb2⟩
            go_wp2_with fail
            go_ret
            exact ⟨ret_bool HO.out.symm, hb.trans (hb2.mono hb.size)⟩
          · have HM : Hid (ascOk xs k = true) := by rw [Hid, ascOk, inB_iff, ← clAsc_bnd]; omega
            have HS : Hid (byA (clLast xs k) (clAsc xs k) (nth xs k) = clAsc xs (k+1)) := clAsc_succ (by omega)
            have HL : Hid (clLast xs (k+1) = nth xs k) := clLast_succ xs k
            go_wp2_with fail
            refine (greatest_any _ _ _ ca0 (by omega)).mono ?_
            rintro e w2 ⟨rfl, hb2⟩
            have V2 := hV.below hb2
            have ⟨⟨zV2, cV2, dV2⟩, fV2, gV2⟩ := V2
            clear cV dV fV gV
            go_wp2_with fail
            refine (by_any _ _ _ _ ca0 (by omega)).mono ?_
            rintro e w3 ⟨rfl, hb3⟩
            have V3 := V2.below hb3
            have ⟨⟨zV3, cV3, dV3⟩, fV3, gV3⟩ := V3
            clear cV2 dV2 fV2 gV2
            rw [HS.out]
            have b3 : Below w.heap.size w w3 := (hb.trans (hb2.mono hb.size)).trans (hb3.mono (Nat.le_trans hb.size hb2.size))
            go_wp2_with fail
            go_roundw
            case rel =>
              refine ⟨k + 1, by omega, by go_num, fun j hj => ?_, by rw [HL.out]; exact V3.set _ _, (b3.setCell (p := ⟨g, 0, none⟩) hz1 _).setCell (p := ⟨g, 1, none⟩) hz1 _⟩
              by_cases e : j = k
              · rw [e]; exact HM.out
              · exact HA.out j (by omega)
            case measure => simp [intOf]; omega
      · obtain rfl : k = xs.length := by omega
        have HO : Hid (ascB xs = true) := ascB_iff.2 ⟨hl, HA.out⟩
        go_wp2_with fail
        go_ret
        exact ⟨ret_bool HO.out.symm, hb⟩
  · have HO := Lib.hid (ascB_long hl)
    go_enter Try.func86, Try.ntmps86
    go_wp2_with fail
    go_ret
    exact ⟨ret_bool HO.out.symm, Below.refl _ _⟩

theorem isRise_any (a : Option Addr) (xs : List Int) (n cap k : Nat) (w : World) (hx : Rd w a xs) (hk : k < xs.length) (hn : xs.length ≤ n) :
    Calls Try.prog 88 #[.slice a n cap, .int .i64 k] w fun e w' => e = .returned (.bool (riseB xs k)) ∧ Below w.heap.size w w' := by
  have hlen := hx.len
  by_cases h0 : k = 0
  · subst h0
    have HR : Hid (riseB xs 0 = false) := rfl
    go_enter Try.func88, Try.ntmps88
    go_wp2_with fail
    go_quiet (fail)
    go_wp2_with fail
    go_ret
    exact ⟨ret_bool HR.out.symm, Joins.below_draws _ _ _⟩
  · obtain ⟨b, off, rfl, hbl, hc⟩ := hx.cell k hk
    obtain ⟨b', off', e', hbl', hc'⟩ := hx.cell (k-1) (by omega)
    simp only [Option.some.injEq, Addr.mk.injEq, and_true] at e'
    obtain ⟨rfl, rfl⟩ := e'
    have hcast : IntKind.i64.wrap ((k : Int) - 1) = ((k - 1 : Nat) : Int) := by rw [i64_wrap, IntWalk.wrap64_in _ ⟨by omega, by omega⟩]; omega
    have hp : (0 : Int) < (k : Int) := by omega
    have hp2 : decide ((0 : Int) < (k : Int)) = true := by simp; omega
    have hp3 : 0 < k := by omega
    have HR : Hid (riseB xs k = decide (nth xs (k-1) < nth xs k)) := by simp [Hid, riseB]; omega
    go_enter Try.func88, Try.ntmps88
    go_wp2_with fail
    go_quiet (fail)
    go_wp2_with fail
    go_ret
    exact ⟨ret_bool HR.out.symm, Joins.below_draws _ _ _⟩

theorem iModify_any (a : Option Addr) (xs : List Int) (cap : Nat) (w : World) (hx : Rd w a xs) :
    Calls Try.prog 30 #[.slice a xs.length cap] w fun e w' => ∃ a' cap', e = .returned (.tuple #[.slice a' (modL xs).length cap', .bool (ascB xs)]) ∧ OwnI w' w.heap.size (.slice a' (modL xs).length cap') (modL xs) ∧ Below w.heap.size w w' := by
  have hlen := hx.len
  go_enter Try.func30, Try.ntmps30
  go_wp2_with fail
  refine (iIsAscent_any _ _ _ _ hx).mono ?_
  rintro e w1 ⟨rfl, hb1⟩
  cases hb0 : ascB xs
  · have HL : Hid (modL xs = []) := by simp [Hid, modL, hb0]
    have HB := Lib.hid hb0
    clear hb0
    go_wp2_with fail
    refine bodyPost_ret (v := .tuple #[.slice none 0 0, .bool false]) (by simp [results, Try.results30, go_sem]) rfl ?_
    exact ⟨none, 0, by rw [HL.out, HB.out]; rfl, by rw [HL.out]; exact OwnI.nil _ _, hb1⟩
  · have HL : Hid (modL xs = modTo xs xs.length) := by simp [Hid, modL, hb0]
    have h12 := (ascB_iff.1 hb0).1
    have HB := Lib.hid hb0
    clear hb0
    go_wp2_with fail
    refine (sliceClone_any _ _ _ _ (hx.below hb1) (by omega)).mono ?_
    rintro e w2 ⟨a1, c1, rfl, ho2, hb2⟩
    have b2 := hb1.trans (hb2.mono hb1.size)
    have ho3 := ho2.mono hb1.size
    have hcl := ho2.capLe
    clear ho2 hb2 hb1
    go_wp2_with fail
    go_loopw [16] (fun i wr => ∃ k : Nat, k ≤ xs.length ∧ i = .int .i64 k ∧ OwnI wr w.heap.size (.slice a1 xs.length c1) (modTo xs k) ∧ Below w.heap.size w wr) (fun i _ => xs.length - (intOf i).toNat)
    case atStart => exact ⟨0, by omega, rfl, ho3, b2⟩
    case round =>
      clear ho3 b2
      obtain ⟨k, hk, rfl, hown, hb⟩ := hrel
      by_cases hlt : k < xs.length
      · have hxr := hx.below hb
        obtain ⟨b, off, ea, hbl, hc⟩ := hxr.cell k (by omega)
        subst ea
        cases hr : riseB xs k
        · have HN : Hid (modTo xs (k+1) = modTo xs k) := by simp [Hid, modTo, hr]
          have HR := Lib.hid hr
          clear hr
          go_wp2_with fail
          refine (isRise_any _ xs _ _ _ _ hxr hlt (Nat.le_refl _)).mono ?_
          rintro e w2 ⟨rfl, hb2⟩
          rw [HR.out]
          go_wp2_with fail
          go_roundw
          case rel => exact ⟨k + 1, by omega, by go_num, by rw [HN.out]; exact hown.below hb2 (Nat.le_refl _), hb.trans (hb2.mono hb.size)⟩
          case measure => simp [intOf]; omega
        · have HN : Hid (modTo xs (k+1) = bumpTo (modTo xs k) (nth xs k) k) := by simp [Hid, modTo, hr]
          have hlM : (modTo xs k).length = xs.length := modTo_len xs k
          obtain ⟨g, rfl, hg0, hg1⟩ := hown.head (by omega)
          have HR := Lib.hid hr
          clear hr
          go_wp2_with fail
          refine (isRise_any _ xs _ _ _ _ hxr hlt (Nat.le_refl _)).mono ?_
          rintro e w3 ⟨rfl, hb3⟩
          rw [HR.out]
          have o3 := hown.below hb3 (Nat.le_refl _)
          have b3 := hb.trans (hb3.mono hb.size)
          have k1 : (k : Int) ≤ (c1 : Int) := by omega
          have k0 : (0 : Int) ≤ (k : Int) := by omega
          clear hown hb hb3
          go_wp2_with fail
          go_loopw [29] (fun i wi => ∃ j : Nat, j ≤ k ∧ i = .int .i64 j ∧ OwnI wi w.heap.size (.slice (some ⟨g, 0, none⟩) xs.length c1) (bumpTo (modTo xs k) (nth xs k) j) ∧ Below w.heap.size w wi) (fun i _ => k - (intOf i).toNat)
          case atStart => exact ⟨0, Nat.zero_le _, rfl, o3, b3⟩
          case round =>
            clear o3 b3
            obtain ⟨j, hj, rfl, hown, hb⟩ := hrel
            by_cases hjl : j < k
            · have ⟨s0, s1⟩ := bump_small HB.out hlt (Nat.le_of_lt hjl) (t := j) (by omega)
              have hlJ : (bumpTo (modTo xs k) (nth xs k) j).length = xs.length := by rw [bumpTo_len, modTo_len]
              have ⟨cj, fj⟩ := hown.at' hlJ.symm (i := j) (by omega)
              have hput := (hown.put hlJ.symm j (nth (bumpTo (modTo xs k) (nth xs k) j) j + 1)).1
              by_cases hle : nth xs k ≤ nth (bumpTo (modTo xs k) (nth xs k) j) j
              · have HJ := Lib.hid (bump_yes hle)
                have HP := Lib.hid hput
                obtain ⟨v, hv⟩ : ∃ v, v = nth (bumpTo (modTo xs k) (nth xs k) j) j := ⟨_, rfl⟩
                rw [← hv] at s0 s1 cj hle HP HJ
                clear hput hv
                go_wp2_with fail
                go_roundw
                case rel => exact ⟨j + 1, by omega, by go_num, by rw [HJ.out]; exact HP.out, hb.setCell (p := ⟨g, j, none⟩) hg0 _⟩
                case measure => simp [intOf]; omega
              · have HJ := Lib.hid (bump_no hle)
                clear hput
                go_wp2_with fail
                go_roundw
                case rel => exact ⟨j + 1, by omega, by go_num, by rw [HJ.out]; exact hown, hb⟩
                case measure => simp [intOf]; omega
            · obtain rfl : j = k := by omega
              go_wp2_with fail
              go_roundw
              case rel => exact ⟨j + 1, by omega, by go_num, by rw [HN.out]; exact hown, hb⟩
              case measure => simp [intOf]; omega
      · obtain rfl : k = xs.length := by omega
        go_wp2_with fail
        refine bodyPost_ret (v := .tuple #[.slice a1 xs.length c1, .bool true]) (by simp [results, Try.results30, go_sem]) rfl ?_
        exact ⟨a1, c1, by rw [HL.out, HB.out, modTo_len], by rw [HL.out, modTo_len]; exact hown, hb⟩

theorem sModify_any (a : Option Addr) (xs : List Int) (cap : Nat) (w : World) (hx : Rd w a xs) (hcap : xs.length ≤ cap) :
    Calls Try.prog 31 #[.slice a xs.length cap] w fun e w' => ∃ a' cap', e = .returned (.tuple #[.slice a' (modL xs).length cap', .bool (ascB xs)]) ∧ OwnI w' w.heap.size (.slice a' (modL xs).length cap') (modL xs) ∧ Below w.heap.size w w' := by
  go_enter Try.func31, Try.ntmps31
  go_wp2_with fail
  refine (asGood_any _ _ _ _ hx hcap).mono ?_
  rintro e w1 ⟨rfl, hb⟩
  cases hb0 : ascB xs
  · have HL : Hid (modL xs = []) := by simp [Hid, modL, hb0]
    have HB := Lib.hid hb0
    clear hb0
    go_wp2_with fail
    refine bodyPost_ret (v := .tuple #[.slice none 0 0, .bool false]) (by simp [results, Try.results31, go_sem]) rfl ?_
    exact ⟨none, 0, by rw [HL.out, HB.out]; rfl, by rw [HL.out]; exact OwnI.nil _ _, hb⟩
  · have HL : Hid (modL xs = modTo xs xs.length) := by simp [Hid, modL, hb0]
    have HB := Lib.hid hb0
    clear hb0
    go_wp2_with fail
    refine (asModify_any _ _ _ _ (hx.below hb) HB.out).mono ?_
    rintro e w2 ⟨a2, c2, rfl, ho2, hb2⟩
    go_wp2_with fail
    refine bodyPost_ret (v := .tuple #[.slice a2 xs.length c2, .bool true]) (by simp [results, Try.results31, go_sem]) rfl ?_
    exact ⟨a2, c2, by rw [HL.out, HB.out, modTo_len], by rw [HL.out, modTo_len]; exact ho2.mono hb.size, hb.trans (hb2.mono hb.size)⟩

theorem undS_last (xs : List Int) {d : Nat} (h : d + 1 = max 1 xs.length) : undS xs d = undS xs xs.length := by
  by_cases h0 : xs.length = 0
  · obtain rfl : d = 0 := by omega
    rw [h0]
  · have e : xs.length = d + 1 := by omega
    have e2 : xs.length - 1 - d = 0 := by omega
    conv => rhs; rw [e]
    rw [undS, e2]
    simp [riseB]
theorem undI_last (xs : List Int) {d : Nat} (h : d + 1 = max 1 xs.length) : undI xs d = undI xs xs.length := by
  by_cases h0 : xs.length = 0
  · obtain rfl : d = 0 := by omega
    rw [h0]
  · have e : xs.length = d + 1 := by omega
    have e2 : xs.length - 1 - d = 0 := by omega
    conv => rhs; rw [e]
    rw [undI, e2]
    simp [riseB]
theorem asUndo_any (a : Option Addr) (xs : List Int) (cap : Nat) (w : World) (hx : Rd w a xs) (h12 : xs.length ≤ 12) (hal : allB xs 0 12 = true) :
    Calls Try.prog 92 #[.slice a xs.length cap] w fun e w' => ∃ a' cap', e = .returned (.slice a' xs.length cap') ∧ OwnI w' w.heap.size (.slice a' xs.length cap') (undS xs xs.length) ∧ Below w.heap.size w w' := by
  have HAL := Lib.hid hal
  clear hal
  go_enter Try.func92, Try.ntmps92
  go_wp2_with fail
  refine (l1Own_any _ _ _ _ hx (by omega)).mono ?_
  rintro e w1 ⟨a1, c1, rfl, ho1, hb1⟩
  go_wp2_with fail
  go_loopw [4] (fun i wr => ∃ d : Nat, d + 1 ≤ max 1 xs.length ∧ i = .int .i64 ((xs.length : Int) - 1 - (d : Int)) ∧ OwnI wr w.heap.size (.slice a1 xs.length c1) (undS xs d) ∧ Below w.heap.size w wr) (fun i _ => (intOf i).toNat)
  case atStart => exact ⟨0, by omega, by simp, ho1, hb1⟩
  case round =>
    clear ho1 hb1
    obtain ⟨d, hd, rfl, hown, hb⟩ := hrel
    by_cases hlt : d + 1 < xs.length
    · obtain ⟨k, hk⟩ : ∃ k, k = xs.length - 1 - d := ⟨_, rfl⟩
      have e : (xs.length : Int) - 1 - (d : Int) = (k : Int) := by omega
      have e1 : (xs.length : Int) - 1 - ((d + 1 : Nat) : Int) = (k : Int) - 1 := by omega
      have HK := Lib.hid hk
      have HE1 := Lib.hid e1
      have hlS := undS_len xs d
      have hk0 : 0 < k := by omega
      have hkn : k < xs.length := by omega
      have hkd : d + 1 + k = xs.length := by omega
      have HS : Hid (undS xs (d+1) = if riseB (undS xs d) k then lessTo (undS xs d) (nth (undS xs d) k) k else undS xs d) := by rw [Hid, undS, hk]
      have hsm := undS_small HAL.out d (by omega)
      rw [e]
      clear e e1 hk
      obtain ⟨g, rfl, hg0, hg1⟩ := hown.head (by omega)
      have ⟨ck, fk⟩ := hown.at' hlS.symm (i := k) (by omega)
      have ⟨ck1, fk1⟩ := hown.at' hlS.symm (i := k - 1) (by omega)
      have hcast : IntKind.i64.wrap ((k : Int) - 1) = ((k - 1 : Nat) : Int) := by rw [i64_wrap, IntWalk.wrap64_in _ ⟨by omega, by omega⟩]; omega
      have HSM := Lib.hid hsm
      clear hsm
      obtain ⟨Z, hZ⟩ : ∃ Z, Z = undS xs d := ⟨_, rfl⟩
      rw [← hZ] at hown hlS HS ck ck1 HSM
      clear hZ
      cases hr : riseB Z k
      · have hge : ¬ nth Z (k-1) < nth Z k := by
          intro h; rw [riseB_iff.2 ⟨by omega, h⟩] at hr; cases hr
        have HN : Hid (undS xs (d+1) = Z) := by rw [Hid, HS.out, hr]; rfl
        clear hr
        go_wp2_with fail
        go_quiet (fail)
        go_wp2_with fail
        go_roundw
        case rel => exact ⟨d + 1, by omega, by rw [HE1.out]; exact val_int (by omega), by rw [HN.out]; exact hown.below (Joins.below_draws _ _ _) (Nat.le_refl _), hb.trans (Joins.below_draws _ _ _)⟩
        case measure => simp [intOf]; omega
      · have hge : nth Z (k-1) < nth Z k := (riseB_iff.1 hr).2
        have HN : Hid (undS xs (d+1) = lessTo Z (nth Z k) k) := by rw [Hid, HS.out, hr]; rfl
        clear hr
        go_wp2_with fail
        go_quiet (fail)
        go_wp2_with fail
        go_loopw [5] (fun i wi => ∃ j : Nat, j ≤ k ∧ i = .int .i64 j ∧ OwnI wi w.heap.size (.slice (some ⟨g, 0, none⟩) xs.length c1) (lessTo Z (nth Z k) j) ∧ Below w.heap.size w wi) (fun i _ => k - (intOf i).toNat)
        case atStart => exact ⟨0, Nat.zero_le _, rfl, hown.below (Joins.below_draws _ _ _) (Nat.le_refl _), hb.trans (Joins.below_draws _ _ _)⟩
        case round =>
          clear hown hb ck fk ck1 fk1
          obtain ⟨j, hj, rfl, hown, hb⟩ := hrel
          by_cases hjl : j < k
          · have hlJ : (lessTo Z (nth Z k) j).length = xs.length := by rw [lessTo_len, hlS]
            have ⟨cj, fj⟩ := hown.at' hlJ.symm (i := j) (by omega)
            have ⟨cz, fz⟩ := hown.at' hlJ.symm (i := k) (by omega)
            have hzk : nth (lessTo Z (nth Z k) j) k = nth Z k := by rw [lessTo_nth (by omega), if_neg (by omega)]
            have hzj : nth (lessTo Z (nth Z k) j) j = nth Z j := by rw [lessTo_nth (by omega), if_neg (by omega)]
            have ⟨s0, s1⟩ := HSM.out j (by omega)
            have hput := fun n => ((hown.below (Joins.below_draws _ _ n) (Nat.le_refl _)).put hlJ.symm j (nth Z j - 1)).1
            rw [hzk] at cz
            rw [hzj] at cj
            by_cases hle : nth Z k < nth Z j
            · have HJ : Hid (lessTo Z (nth Z k) (j+1) = (lessTo Z (nth Z k) j).set j (nth Z j - 1)) := by rw [Hid, less_yes (by rw [hzj]; exact hle), hzj]
              have HP := Lib.hid hput
              clear hput hzj hzk
              go_wp2_with fail
              go_quiet (fail)
              go_wp2_with fail
              go_roundw
              case rel => exact ⟨j + 1, by omega, by go_num, by rw [HJ.out]; exact HP.out _, (hb.trans (Joins.below_draws _ _ _)).setCell (p := ⟨g, j, none⟩) hg0 _⟩
              case measure => simp [intOf]; omega
            · have HJ : Hid (lessTo Z (nth Z k) (j+1) = lessTo Z (nth Z k) j) := less_no (by rw [hzj]; exact hle)
              clear hput hzj hzk
              go_wp2_with fail
              go_quiet (fail)
              go_wp2_with fail
              go_roundw
              case rel => exact ⟨j + 1, by omega, by go_num, by rw [HJ.out]; exact hown.below (Joins.below_draws _ _ _) (Nat.le_refl _), hb.trans (Joins.below_draws _ _ _)⟩
              case measure => simp [intOf]; omega
          · obtain rfl : j = k := by omega
            go_wp2_with fail
            go_roundw
            case rel => exact ⟨d + 1, by omega, by rw [HE1.out]; exact val_int (by omega), by rw [HN.out]; exact hown, hb⟩
            case measure => simp [intOf]; omega
    · have HE : Hid (undS xs d = undS xs xs.length) := undS_last xs (by omega)
      have hneg : ¬ (0 : Int) < (xs.length : Int) - 1 - (d : Int) := by omega
      go_wp2_with fail
      go_ret
      exact ⟨a1, c1, rfl, by rw [← HE.out]; exact hown, hb⟩

theorem sliceEqual_any (a b : Option Addr) (xs ys : List Int) (ca cb : Nat) (w : World) (hx : Rd w a xs) (hy : Rd w b ys) :
    Calls Try.prog 73 #[.slice a xs.length ca, .slice b ys.length cb] w fun e w' => e = .returned (.bool (eqL xs ys)) ∧ Below w.heap.size w w' := by
  have hlx := hx.len
  have hly := hy.len
  by_cases hl : xs.length = ys.length
  · have hl' : ((xs.length : Int) != (ys.length : Int)) = false := by simp [hl]
    go_enter Try.func73, Try.ntmps73
    have HL := Lib.hid hl
    clear hl
    go_wp2_with fail
    go_loopw [13] (fun i wr => ∃ k : Nat, k ≤ xs.length ∧ i = .int .i64 k ∧ xs.take k = ys.take k ∧ Below w.heap.size w wr) (fun i _ => xs.length - (intOf i).toNat)
    case atStart => exact ⟨0, Nat.zero_le _, rfl, rfl, Below.refl _ _⟩
    case round =>
      obtain ⟨k, hk, rfl, htk, hb⟩ := hrel
      have HT := Lib.hid htk
      clear htk
      by_cases hlt : k < xs.length
      · have hlt' : k < ys.length := by rw [← HL.out]; exact hlt
        obtain ⟨b1, o1, rfl, hb1, hc1⟩ := (hx.below hb).cell k hlt
        obtain ⟨b2, o2, rfl, hb2, hc2⟩ := (hy.below hb).cell k hlt'
        by_cases he : nth xs k = nth ys k
        · have he' : (nth xs k != nth ys k) = false := by simp [he]
          have HE := Lib.hid he
          clear he
          go_wp2_with fail
          go_quiet (fail)
          go_wp2_with fail
          go_roundw
          case rel =>
            refine ⟨k + 1, by omega, by go_num, ?_, by exact hb.trans (Joins.below_draws _ _ _)⟩
            rw [List.take_succ_eq_append_getElem hlt, List.take_succ_eq_append_getElem hlt', HT.out, ← nth_get, ← nth_get, HE.out]
          case measure => simp [intOf]; omega
        · have he' : (nth xs k != nth ys k) = true := by simp [he]
          have hne : eqL xs ys = false := by
            simp only [eqL, decide_eq_false_iff_not]
            intro e
            subst e
            exact he rfl
          have HN := Lib.hid hne
          clear he hne
          go_wp2_with fail
          go_quiet (fail)
          go_wp2_with fail
          go_ret
          exact ⟨ret_bool HN.out.symm, hb.trans (Joins.below_draws _ _ _)⟩
      · go_wp2_with fail
        go_ret
        refine ⟨ret_bool ?_, hb⟩
        have h1 := HT.out
        rw [List.take_of_length_le (by omega), List.take_of_length_le (by rw [← HL.out]; omega)] at h1
        simp [eqL, h1]
  · have hl' : ((xs.length : Int) != (ys.length : Int)) = true := by simp; omega
    have hne : eqL xs ys = false := by
      simp only [eqL, decide_eq_false_iff_not]
      intro e
      exact hl (by rw [e])
    have HN := Lib.hid hne
    clear hl hne
    go_enter Try.func73, Try.ntmps73
    go_wp2_with fail
    go_ret
    exact ⟨ret_bool HN.out.symm, Below.refl _ _⟩

theorem iUnmod_any (a : Option Addr) (xs : List Int) (cap : Nat) (w : World) (hx : Rd w a xs) (_ : xs.length ≤ cap) :
    Calls Try.prog 34 #[.slice a xs.length cap] w fun e w' => ∃ a' cap', e = .returned (.tuple #[.slice a' (unmL xs).length cap', .bool (unmB xs)]) ∧ OwnI w' w.heap.size (.slice a' (unmL xs).length cap') (unmL xs) ∧ Below w.heap.size w w' := by
  have hlen := hx.len
  by_cases hl : xs.length ≤ 12
  · go_enter Try.func34, Try.ntmps34
    go_wp2_with fail
    refine (sliceClone_any _ _ _ _ hx (by omega)).mono ?_
    rintro e w1 ⟨a1, c1, rfl, ho1, hb1⟩
    have hcl := ho1.capLe
    go_wp2_with fail
    go_loopw [5] (fun i wr => ∃ (d : Nat) (Z : List Int), d + 1 ≤ max 1 xs.length ∧ i = .int .i64 ((xs.length : Int) - 1 - (d : Int)) ∧ Z.length = xs.length ∧ (allB xs 0 12 = true → Z = undI xs d ∧ ∀ t, t < xs.length → 0 ≤ nth Z t ∧ nth Z t ≤ 12) ∧ OwnI wr w.heap.size (.slice a1 xs.length c1) Z ∧ Below w.heap.size w wr) (fun i _ => (intOf i).toNat)
    case atStart => exact ⟨0, xs, by omega, by simp, rfl, fun h => ⟨rfl, fun t ht => allB_nth h ht⟩, ho1, hb1⟩
    case round =>
      clear ho1 hb1
      obtain ⟨d, Z, hd, rfl, hlZ, hZ, hown, hb⟩ := hrel
      have HZ := Lib.hid hZ
      clear hZ
      by_cases hlt : d + 1 < xs.length
      · obtain ⟨k, hk⟩ : ∃ k, k = xs.length - 1 - d := ⟨_, rfl⟩
        have e : (xs.length : Int) - 1 - (d : Int) = (k : Int) := by omega
        have e1 : (xs.length : Int) - 1 - ((d + 1 : Nat) : Int) = (k : Int) - 1 := by omega
        have HE1 := Lib.hid e1
        have hk0 : 0 < k := by omega
        have hkn : k < xs.length := by omega
        have hkd : d + 1 + k = xs.length := by omega
        have HS : Hid (undI xs (d+1) = if riseB xs k then lessTo (undI xs d) (nth (undI xs d) k) k else undI xs d) := by rw [Hid, undI, hk]
        have HLZ := Lib.hid hlZ
        rw [e]
        clear e e1 hk
        have hxr := hx.below hb
        cases hr : riseB xs k
        · have HN : Hid (undI xs (d+1) = undI xs d) := by rw [Hid, HS.out, hr]; rfl
          have HR := Lib.hid hr
          clear hr
          go_wp2_with fail
          refine (isRise_any _ xs _ _ _ _ hxr hkn (Nat.le_refl _)).mono ?_
          rintro e w2 ⟨rfl, hb2⟩
          rw [HR.out]
          go_wp2_with fail
          go_roundw
          case rel => exact ⟨d + 1, Z, by omega, by rw [HE1.out], HLZ.out, fun h => by rw [HN.out]; exact HZ.out h, hown.below hb2 (Nat.le_refl _), hb.trans (hb2.mono hb.size)⟩
          case measure => simp [intOf]; omega
        · have HN : Hid (undI xs (d+1) = lessTo (undI xs d) (nth (undI xs d) k) k) := by rw [Hid, HS.out, hr]; rfl
          have HR := Lib.hid hr
          obtain ⟨g, rfl, hg0, hg1⟩ := hown.head (by omega)
          clear hr hlZ
          go_wp2_with fail
          refine (isRise_any _ xs _ _ _ _ hxr hkn (Nat.le_refl _)).mono ?_
          rintro e w2 ⟨rfl, hb2⟩
          rw [HR.out]
          have o2 := hown.below hb2 (Nat.le_refl _)
          have b2 := hb.trans (hb2.mono hb.size)
          have k1 : (k : Int) ≤ (c1 : Int) := by omega
          clear hown hb hb2
          go_wp2_with fail
          go_loopw [30] (fun i wi => ∃ (j : Nat) (Y : List Int), j ≤ k ∧ i = .int .i64 j ∧ Y.length = xs.length ∧ (allB xs 0 12 = true → Y = lessTo Z (nth Z k) j) ∧ OwnI wi w.heap.size (.slice (some ⟨g, 0, none⟩) xs.length c1) Y ∧ Below w.heap.size w wi) (fun i _ => k - (intOf i).toNat)
          case atStart => exact ⟨0, Z, Nat.zero_le _, rfl, HLZ.out, fun _ => rfl, o2, b2⟩
          case round =>
            clear o2 b2
            obtain ⟨j, Y, hj, rfl, hlY, hY, hown, hb⟩ := hrel
            have HY := Lib.hid hY
            clear hY
            by_cases hjl : j < k
            · have ⟨cj, fj⟩ := hown.at' hlY.symm (i := j) (by omega)
              have ⟨ck, fk⟩ := hown.at' hlY.symm (i := k) (by omega)
              have hput := (hown.put hlY.symm j (wrap64 (nth Y j - 1))).1
              have HLY := Lib.hid hlY
              have HQ : Hid (allB xs 0 12 = true → nth Y k = nth Z k ∧ nth Y j = nth Z j ∧ wrap64 (nth Y j - 1) = nth Y j - 1 ∧ lessTo Z (nth Z k) (j+1) = if nth Y k < nth Y j then Y.set j (nth Y j - 1) else Y) := fun h => by
                have ⟨e1, e2⟩ := HZ.out h
                have e3 := HY.out h
                have f1 : nth Y k = nth Z k := by rw [e3, lessTo_nth (by rw [HLZ.out]; omega), if_neg (by omega)]
                have f2 : nth Y j = nth Z j := by rw [e3, lessTo_nth (by rw [HLZ.out]; omega), if_neg (by omega)]
                have ⟨g0, g1⟩ := e2 j (by omega)
                refine ⟨f1, f2, by rw [f2]; exact IntWalk.wrap64_in _ ⟨by omega, by omega⟩, ?_⟩
                rw [lessTo, ← e3, lessStep, f1]
              clear hlY
              by_cases hle : nth Y k < nth Y j
              · have HP := Lib.hid hput
                have HJ : Hid (allB xs 0 12 = true → lessTo Z (nth Z k) (j+1) = Y.set j (wrap64 (nth Y j - 1))) := fun h => by
                  have ⟨_, _, q3, q4⟩ := HQ.out h
                  rw [q4, if_pos hle, q3]
                clear hput
                go_wp2_with fail
                go_roundw
                case rel => exact ⟨j + 1, Y.set j (wrap64 (nth Y j - 1)), by omega, by go_num, by rw [List.length_set]; exact HLY.out, fun h => (HJ.out h).symm, HP.out, hb.setCell (p := ⟨g, j, none⟩) hg0 _⟩
                case measure => simp [intOf]; omega
              · have HJ : Hid (allB xs 0 12 = true → lessTo Z (nth Z k) (j+1) = Y) := fun h => by
                  have ⟨_, _, q3, q4⟩ := HQ.out h
                  rw [q4, if_neg hle]
                clear hput
                go_wp2_with fail
                go_roundw
                case rel => exact ⟨j + 1, Y, by omega, by go_num, HLY.out, fun h => (HJ.out h).symm, hown, hb⟩
                case measure => simp [intOf]; omega
            · obtain rfl : j = k := by omega
              have HF : Hid (allB xs 0 12 = true → Y = undI xs (d+1) ∧ ∀ t, t < xs.length → 0 ≤ nth Y t ∧ nth Y t ≤ 12) := fun h => by
                have ⟨e1, e2⟩ := HZ.out h
                have e3 := HY.out h
                refine ⟨by rw [e3, HN.out, ← e1], fun t ht => ?_⟩
                rw [e3, lessTo_nth (by rw [HLZ.out]; omega)]
                have h1 := e2 t ht
                have h2 := e2 j (by omega)
                split <;> omega
              have HLY := Lib.hid hlY
              clear hlY
              go_wp2_with fail
              go_roundw
              case rel => exact ⟨d + 1, Y, by omega, by rw [HE1.out], HLY.out, HF.out, hown, hb⟩
              case measure => simp [intOf]; omega
      · have hneg : ¬ (0 : Int) < (xs.length : Int) - 1 - (d : Int) := by omega
        have ht := unm_test hl hlZ (fun h => by rw [(HZ.out h).1]; exact undI_last xs (by omega))
        have HT := Lib.hid ht.1
        have HT2 := Lib.hid ht.2
        have hM := iModify_any a1 Z c1 wr hown.rd
        rw [hlZ] at hM
        have HLZ := Lib.hid hlZ
        clear ht hlZ
        go_wp2_with fail
        refine hM.mono ?_
        rintro e w2 ⟨a2, c2, rfl, ho2, hb2⟩
        clear hM
        have b2 := hb.trans (hb2.mono hb.size)
        have o2 := hown.below hb2 (Nat.le_refl _)
        cases hg : ascB Z
        · have H1 : Hid (unmB xs = false) := by rw [Hid, ← HT.out, hg]; rfl
          have HL : Hid (unmL xs = []) := by simp [Hid, unmL, H1.out]
          clear hg
          go_wp2_with fail
          refine bodyPost_ret (v := .tuple #[.slice none 0 0, .bool false]) (by simp [results, Try.results34, go_sem]) rfl ?_
          exact ⟨none, 0, by rw [HL.out, H1.out]; rfl, by rw [HL.out]; exact OwnI.nil _ _, b2⟩
        · have HM : Hid (modL Z = modTo Z Z.length) := by simp [Hid, modL, hg]
          have H1 : Hid (unmB xs = eqL (modL Z) xs) := by rw [Hid, HM.out, ← HT.out, hg]; rfl
          clear hg
          go_wp2_with fail
          refine (sliceEqual_any _ _ (modL Z) xs _ _ _ ho2.rd (hx.below b2)).mono ?_
          rintro e w3 ⟨rfl, hb3⟩
          have b3 := b2.trans (hb3.mono b2.size)
          have o3 := o2.below hb3 (Nat.le_refl _)
          cases hq : eqL (modL Z) xs
          · have H2 : Hid (unmB xs = false) := by rw [Hid, H1.out, hq]
            have HL : Hid (unmL xs = []) := by simp [Hid, unmL, H2.out]
            clear hq
            go_wp2_with fail
            refine bodyPost_ret (v := .tuple #[.slice none 0 0, .bool false]) (by simp [results, Try.results34, go_sem]) rfl ?_
            exact ⟨none, 0, by rw [HL.out, H2.out]; rfl, by rw [HL.out]; exact OwnI.nil _ _, b3⟩
          · have H2 : Hid (unmB xs = true) := by rw [Hid, H1.out, hq]
            have HL : Hid (unmL xs = Z) := by rw [Hid, HT2.out H2.out]; simp [unmL, H2.out]
            clear hq
            go_wp2_with fail
            refine bodyPost_ret (v := .tuple #[.slice a1 xs.length c1, .bool true]) (by simp [results, Try.results34, go_sem]) rfl ?_
            exact ⟨a1, c1, by rw [HL.out, H2.out, HLZ.out], by rw [HL.out, HLZ.out]; exact o3, b3⟩
  · have HU : Hid (unmB xs = false) := by simp [Hid, unmB, hl]
    have HL : Hid (unmL xs = []) := by simp [Hid, unmL, HU.out]
    go_enter Try.func34, Try.ntmps34
    go_wp2_with fail
    refine bodyPost_ret (v := .tuple #[.slice none 0 0, .bool false]) (by simp [results, Try.results34, go_sem]) rfl ?_
    exact ⟨none, 0, by rw [HL.out, HU.out]; rfl, by rw [HL.out]; exact OwnI.nil _ _, Below.refl _ _⟩

theorem l1Same_any (a b : Option Addr) (xs ys : List Int) (ca cb : Nat) (w : World) (hx : Rd w a xs) (hy : Rd w b ys) :
    Calls Try.prog 93 #[.slice a xs.length ca, .slice b ys.length cb] w fun e w' => e = .returned (.bool (eqL xs ys)) ∧ Below w.heap.size w w' := by
  have hlx := hx.len
  have hly := hy.len
  by_cases hl : xs.length = ys.length
  · have hl' : ((xs.length : Int) != (ys.length : Int)) = false := by simp [hl]
    go_enter Try.func93, Try.ntmps93
    have HL := Lib.hid hl
    clear hl
    go_wp2_with fail
    go_loopw [13] (fun i wr => ∃ k : Nat, k ≤ xs.length ∧ i = .int .i64 k ∧ xs.take k = ys.take k ∧ Below w.heap.size w wr) (fun i _ => xs.length - (intOf i).toNat)
    case atStart => exact ⟨0, Nat.zero_le _, rfl, rfl, Below.refl _ _⟩
    case round =>
      obtain ⟨k, hk, rfl, htk, hb⟩ := hrel
      have HT := Lib.hid htk
      clear htk
      by_cases hlt : k < xs.length
      · have hlt' : k < ys.length := by rw [← HL.out]; exact hlt
        obtain ⟨b1, o1, rfl, hb1, hc1⟩ := (hx.below hb).cell k hlt
        obtain ⟨b2, o2, rfl, hb2, hc2⟩ := (hy.below hb).cell k hlt'
        by_cases he : nth xs k = nth ys k
        · have he' : (nth xs k != nth ys k) = false := by simp [he]
          have HE := Lib.hid he
          clear he
          go_wp2_with fail
          go_quiet (fail)
          go_wp2_with fail
          go_roundw
          case rel =>
            refine ⟨k + 1, by omega, by go_num, ?_, by exact hb.trans (Joins.below_draws _ _ _)⟩
            rw [List.take_succ_eq_append_getElem hlt, List.take_succ_eq_append_getElem hlt', HT.out, ← nth_get, ← nth_get, HE.out]
          case measure => simp [intOf]; omega
        · have he' : (nth xs k != nth ys k) = true := by simp [he]
          have hne : eqL xs ys = false := by
            simp only [eqL, decide_eq_false_iff_not]
            intro e
            subst e
            exact he rfl
          have HN := Lib.hid hne
          clear he hne
          go_wp2_with fail
          go_quiet (fail)
          go_wp2_with fail
          go_ret
          exact ⟨ret_bool HN.out.symm, hb.trans (Joins.below_draws _ _ _)⟩
      · go_wp2_with fail
        go_ret
        refine ⟨ret_bool ?_, hb⟩
        have h1 := HT.out
        rw [List.take_of_length_le (by omega), List.take_of_length_le (by rw [← HL.out]; omega)] at h1
        simp [eqL, h1]
  · have hl' : ((xs.length : Int) != (ys.length : Int)) = true := by simp; omega
    have hne : eqL xs ys = false := by
      simp only [eqL, decide_eq_false_iff_not]
      intro e
      exact hl (by rw [e])
    have HN := Lib.hid hne
    clear hl hne
    go_enter Try.func93, Try.ntmps93
    go_wp2_with fail
    go_ret
    exact ⟨ret_bool HN.out.symm, Below.refl _ _⟩

theorem unm_no {xs : List Int} (h : unmB xs = false) : unmL xs = [] := by simp [unmL, h]
theorem unm_yes {xs : List Int} (h : unmB xs = true) : unmL xs = undS xs xs.length := by simp [unmL, h]
theorem sUnmod_any (a : Option Addr) (xs : List Int) (cap : Nat) (w : World) (hx : Rd w a xs) (hcap : xs.length ≤ cap) :
    Calls Try.prog 35 #[.slice a xs.length cap] w fun e w' => ∃ a' cap', e = .returned (.tuple #[.slice a' (unmL xs).length cap', .bool (unmB xs)]) ∧ OwnI w' w.heap.size (.slice a' (unmL xs).length cap') (unmL xs) ∧ Below w.heap.size w w' := by
  have hlen := hx.len
  by_cases hl : xs.length ≤ 12
  · cases ha : allB xs 0 12
    · have HU : Hid (unmB xs = false) := by simp [Hid, unmB, ha]
      have HL := Lib.hid (unm_no HU.out)
      have HA := Lib.hid ha
      clear ha
      go_enter Try.func35, Try.ntmps35
      go_wp2_with fail
      refine (l1All_any _ _ _ _ _ _ hx).mono ?_
      rintro e w' ⟨rfl, rfl⟩
      rw [HA.out]
      go_wp2_with fail
      refine bodyPost_ret (v := .tuple #[.slice none 0 0, .bool false]) (by simp [results, Try.results35, go_sem]) rfl ?_
      exact ⟨none, 0, by rw [HL.out, HU.out]; rfl, by rw [HL.out]; exact OwnI.nil _ _, Below.refl _ _⟩
    · have HU : Hid (unmB xs = (ascB (undS xs xs.length) && eqL (modTo (undS xs xs.length) xs.length) xs)) := by simp [Hid, unmB, ha, hl]
      have HA := Lib.hid ha
      have hlZ := undS_len xs xs.length
      clear ha
      go_enter Try.func35, Try.ntmps35
      go_wp2_with fail
      refine (l1All_any _ _ _ _ _ _ hx).mono ?_
      rintro e w' ⟨rfl, rfl⟩
      rw [HA.out]
      go_wp2_with fail
      refine (asUndo_any _ _ _ _ hx hl HA.out).mono ?_
      rintro e w1 ⟨a1, c1, rfl, ho1, hb1⟩
      have hcl := ho1.capLe
      have hlo : 0 ≤ xs.length := Nat.zero_le _
      obtain ⟨Z, hZ⟩ : ∃ Z, Z = undS xs xs.length := ⟨_, rfl⟩
      have HZ := Lib.hid hZ
      rw [← hZ] at ho1 hlZ HU
      clear hZ
      have hG := asGood_any a1 Z c1 w1 ho1.rd (by omega)
      rw [hlZ] at hG
      go_wp2_with fail
      refine hG.mono ?_
      rintro e w2 ⟨rfl, hb2⟩
      clear hG
      have b2 := hb1.trans (hb2.mono hb1.size)
      have o2 := ho1.below hb2 (Nat.le_refl _)
      cases hg : ascB Z
      · have H1 : Hid (unmB xs = false) := by rw [Hid, HU.out, hg]; rfl
        have HL := Lib.hid (unm_no H1.out)
        clear hg
        go_wp2_with fail
        refine bodyPost_ret (v := .tuple #[.slice none 0 0, .bool false]) (by simp [results, Try.results35, go_sem]) rfl ?_
        exact ⟨none, 0, by rw [HL.out, H1.out]; rfl, by rw [HL.out]; exact OwnI.nil _ _, b2⟩
      · have H1 : Hid (unmB xs = eqL (modTo Z xs.length) xs) := by rw [Hid, HU.out, hg]; rfl
        have HG := Lib.hid hg
        clear hg
        have hM := asModify_any a1 Z c1 w2 o2.rd HG.out
        rw [hlZ] at hM
        go_wp2_with fail
        refine hM.mono ?_
        rintro e w3 ⟨a3, c3, rfl, ho3, hb3⟩
        clear hM
        have b3 := b2.trans (hb3.mono b2.size)
        have o3 := o2.below hb3 (Nat.le_refl _)
        have hS := l1Same_any a3 a (modTo Z xs.length) xs c3 cap w3 ho3.rd (hx.below b3)
        rw [modTo_len, hlZ] at hS
        go_wp2_with fail
        refine hS.mono ?_
        rintro e w4 ⟨rfl, hb4⟩
        clear hS
        have b4 := b3.trans (hb4.mono b3.size)
        have o4 := o3.below hb4 (Nat.le_refl _)
        cases hq : eqL (modTo Z xs.length) xs
        · have H2 : Hid (unmB xs = false) := by rw [Hid, H1.out, hq]
          have HL := Lib.hid (unm_no H2.out)
          clear hq
          go_wp2_with fail
          refine bodyPost_ret (v := .tuple #[.slice none 0 0, .bool false]) (by simp [results, Try.results35, go_sem]) rfl ?_
          exact ⟨none, 0, by rw [HL.out, H2.out]; rfl, by rw [HL.out]; exact OwnI.nil _ _, b4⟩
        · have H2 : Hid (unmB xs = true) := by rw [Hid, H1.out, hq]
          have HL : Hid (unmL xs = Z) := by rw [Hid, unm_yes H2.out, HZ.out]
          clear hq
          go_wp2_with fail
          refine bodyPost_ret (v := .tuple #[.slice a1 xs.length c1, .bool true]) (by simp [results, Try.results35, go_sem]) rfl ?_
          exact ⟨a1, c1, by rw [HL.out, H2.out, hlZ], by rw [HL.out, hlZ]; exact o4, b4⟩
  · have HU : Hid (unmB xs = false) := by simp [Hid, unmB, hl]
    have HL := Lib.hid (unm_no HU.out)
    go_enter Try.func35, Try.ntmps35
    go_wp2_with fail
    refine bodyPost_ret (v := .tuple #[.slice none 0 0, .bool false]) (by simp [results, Try.results35, go_sem]) rfl ?_
    exact ⟨none, 0, by rw [HL.out, HU.out]; rfl, by rw [HL.out]; exact OwnI.nil _ _, Below.refl _ _⟩

theorem iSteady_any (a : Option Addr) (xs : List Int) (cap : Nat) (w : World) (hx : Rd w a xs) (_ : xs.length ≤ cap) :
    Calls Try.prog 36 #[.slice a xs.length cap] w fun e w' => e = .returned (.tuple #[.bool (stdB xs), .bool (ascB xs)]) ∧ Below w.heap.size w w' := by
  go_enter Try.func36, Try.ntmps36
  go_wp2_with fail
  refine (iModify_any _ _ _ _ hx).mono ?_
  rintro e w1 ⟨a1, c1, rfl, ho1, hb⟩
  cases hb0 : ascB xs
  · have H1 : Hid (stdB xs = false) := by simp [Hid, stdB, hb0]
    have HB := Lib.hid hb0
    clear hb0
    go_wp2_with fail
    refine bodyPost_ret (v := .tuple #[.bool false, .bool false]) (by simp [results, Try.results36, go_sem]) rfl ?_
    exact ⟨by rw [H1.out, HB.out], hb⟩
  · have H1 : Hid (stdB xs = eqL (modTo xs xs.length) xs) := by simp [Hid, stdB, hb0]
    have HL : Hid (modL xs = modTo xs xs.length) := by simp [Hid, modL, hb0]
    have HB := Lib.hid hb0
    clear hb0
    go_wp2_with fail
    refine (sliceEqual_any _ _ (modL xs) xs _ _ _ ho1.rd (hx.below hb)).mono ?_
    rintro e w3 ⟨rfl, hb3⟩
    go_wp2_with fail
    refine bodyPost_ret (v := .tuple #[.bool (eqL (modL xs) xs), .bool true]) (by simp [results, Try.results36, go_sem]) rfl ?_
    exact ⟨by rw [H1.out, HB.out, HL.out], hb.trans (hb3.mono hb.size)⟩

theorem iAscentsOf_any (a : Option Addr) (xs : List Int) (cap : Nat) (w : World) (hx : Rd w a xs) :
    Calls Try.prog 37 #[.slice a xs.length cap] w fun e w' => e = .returned (.tuple #[.int .i64 (aoN xs), .bool (ascB xs)]) ∧ Below w.heap.size w w' := by
  have hlen := hx.len
  go_enter Try.func37, Try.ntmps37
  go_wp2_with fail
  refine (iIsAscent_any _ _ _ _ hx).mono ?_
  rintro e w1 ⟨rfl, hb⟩
  cases hb0 : ascB xs
  · have H1 : Hid (aoN xs = 0) := by simp [Hid, aoN, hb0]
    have HB := Lib.hid hb0
    clear hb0
    go_wp2_with fail
    refine bodyPost_ret (v := .tuple #[.int .i64 0, .bool false]) (by simp [results, Try.results37, go_sem]) rfl ?_
    exact ⟨by rw [H1.out, HB.out], hb⟩
  · have H1 : Hid (aoN xs = (ascTo xs xs.length : Int)) := by simp [Hid, aoN, hb0]
    have h12 := (ascB_iff.1 hb0).1
    have HB := Lib.hid hb0
    clear hb0
    go_wp2_with fail
    go_loopw [4, 11] (fun s i wr => ∃ k : Nat, k ≤ xs.length ∧ i = .int .i64 k ∧ s = .int .i64 (ascTo xs k : Nat) ∧ Below w.heap.size w wr) (fun _ i _ => xs.length - (intOf i).toNat)
    case atStart => exact ⟨0, Nat.zero_le _, rfl, rfl, hb⟩
    case round =>
      clear hb
      obtain ⟨k, hk, rfl, rfl, hb⟩ := hrel
      have hak := ascTo_le xs k
      by_cases hlt : k < xs.length
      · cases hr : riseB xs k
        · have HS := Lib.hid (ascTo_no hr)
          have HR := Lib.hid hr
          clear hr
          go_wp2_with fail
          refine (isRise_any _ xs _ _ _ _ (hx.below hb) hlt (Nat.le_refl _)).mono ?_
          rintro e w2 ⟨rfl, hb2⟩
          rw [HR.out]
          go_wp2_with fail
          go_roundw
          case rel => exact ⟨k + 1, by omega, by go_num, by rw [HS.out], hb.trans (hb2.mono hb.size)⟩
          case measure => simp [intOf]; omega
        · have HS := Lib.hid (ascTo_yes hr)
          have HR := Lib.hid hr
          clear hr
          go_wp2_with fail
          refine (isRise_any _ xs _ _ _ _ (hx.below hb) hlt (Nat.le_refl _)).mono ?_
          rintro e w2 ⟨rfl, hb2⟩
          rw [HR.out]
          go_wp2_with fail
          go_roundw
          case rel => exact ⟨k + 1, by omega, by go_num, by rw [HS.out]; go_num, hb.trans (hb2.mono hb.size)⟩
          case measure => simp [intOf]; omega
      · obtain rfl : k = xs.length := by omega
        go_wp2_with fail
        refine bodyPost_ret (v := .tuple #[.int .i64 (ascTo xs xs.length : Nat), .bool true]) (by simp [results, Try.results37, go_sem]) rfl ?_
        exact ⟨by rw [H1.out, HB.out], hb⟩

/-- the intervals of which the first q have been opened -/
def mixV (cs : List Int) (m k : Int) (n q : Nat) : List Int := prs (fun j => if j < q then opnL (lft cs j) m else lft cs j) (fun j => if j < q then opnR (lft cs j) (rgt cs j) m k else rgt cs j) n
theorem mixV_len (cs : List Int) (m k : Int) (n q : Nat) : (mixV cs m k n q).length = n * 2 := prs_len _ _ _
theorem mixV_zero {cs : List Int} {m k : Int} {n : Nat} (h : cs.length = n * 2) : mixV cs m k n 0 = cs := by
  apply nth_ext' (by rw [mixV_len, h])
  intro i hi
  rw [mixV_len] at hi
  rw [mixV, prs_nth _ _ hi]
  simp only [Nat.not_lt_zero, if_false, lft, rgt]
  split <;> (congr 1; omega)
theorem mixV_all (cs : List Int) (m k : Int) (n : Nat) : mixV cs m k n n = opnV cs m k n := by
  apply nth_ext' (by rw [mixV_len, opnV, prs_len])
  intro i hi
  rw [mixV_len] at hi
  rw [mixV, opnV, prs_nth _ _ hi, prs_nth _ _ hi]
  have : i / 2 < n := by omega
  simp only [this, if_true]
theorem mixV_lft {cs : List Int} {m k : Int} {n q j : Nat} (hj : j < n) (hq : q ≤ j) : lft (mixV cs m k n q) j = lft cs j := by
  rw [mixV, prs_lft _ _ hj, if_neg (by omega)]
theorem mixV_rgt {cs : List Int} {m k : Int} {n q j : Nat} (hj : j < n) (hq : q ≤ j) : rgt (mixV cs m k n q) j = rgt cs j := by
  rw [mixV, prs_rgt _ _ hj, if_neg (by omega)]
theorem mixV_next {cs : List Int} {m k : Int} {n q : Nat} (hq : q < n) : ((mixV cs m k n q).set (q * 2) (opnL (lft cs q) m)).set (q * 2 + 1) (opnR (lft cs q) (rgt cs q) m k) = mixV cs m k n (q+1) := by
  apply nth_ext' (by rw [List.length_set, List.length_set, mixV_len, mixV_len])
  intro i hi
  rw [List.length_set, List.length_set, mixV_len] at hi
  rw [nth_set' (by rw [List.length_set, mixV_len]; omega), nth_set' (by rw [mixV_len]; omega), mixV, mixV, prs_nth _ _ hi, prs_nth _ _ hi]
  by_cases e1 : q * 2 + 1 = i
  · subst e1
    rw [if_pos rfl, if_neg (by omega), show (q * 2 + 1) / 2 = q by omega, if_pos (by omega)]
  · rw [if_neg e1]
    by_cases e2 : q * 2 = i
    · subst e2
      rw [if_pos rfl, if_pos (by omega), show q * 2 / 2 = q by omega, if_pos (by omega)]
    · rw [if_neg e2]
      by_cases e3 : i / 2 < q
      · simp only [e3, show i / 2 < q + 1 by omega, if_true]
      · simp only [e3, show ¬ i / 2 < q + 1 by omega, if_false]
theorem elems_full : ∀ K : Fin 11, (elems (2 ^ K.val - 1)).length = K.val := by decide +kernel

/-- one pair more at the end of a row of pairs that is owned -/
theorem push_iv {ops : Array Oper} {rest : List Oper} {o : Oper} {a : Act} {Q : Exit → Act → World → Prop} (hgd : o.guard = none) (s x : Operand)
    (ho : o.op = .call { callee := .builtin .append, args := #[s, x], argTypes := #[24, 24] }) {wr : World} {B n : Nat} {v : Value} {cs : List Int} {l r : Int} {g : Nat}
    (hs : a.eval s = v) (hx : a.eval x = .slice (some ⟨g, 0, none⟩) 1 1) (hown : OwnV wr B v n cs) (hgz : wr.heap.size = g) (h63 : n ≤ 1048576) (hB : B ≤ wr.heap.size)
    (h : ∀ v' w', OwnV w' B v' (n + 1) (cs ++ [l, r]) → wr.grownBy w' v.ownBlock → (v'.ownBlock = v.ownBlock ∨ v'.ownBlock = some (g + 1)) → wpList Try.prog ops Q rest (a.put o.dst v') w') :
    wpList Try.prog ops Q (o :: rest) a (wr.alloc (.cells #[.int .i64 l, .int .i64 r] 40)) := by
  subst hgz
  obtain ⟨i0, hi, hz0, hz1, hz2⟩ := info_parts infoIv
  refine wpList_append_own_at _ hgd s x 24 ho B 40 i0 (.agg #[.int .i64 0, .int .i64 0]) 2 16 Try.underlying24 hi hz0 hz1 hz2 rfl (by decide) v n (cs.map (Value.int .i64)) hs (hown.alloc _) ⟨wr.heap.size, 0, none⟩ 1 1 [.int .i64 l, .int .i64 r] hx rfl (cell_two_new _ _ _ _) (two_one _ _) (by unfold maxLen; omega) (by omega) (by simp; omega) ?_
  intro v' w' ho2 hg _ hat
  refine h v' w' ?_ (grown_alloc_set hg) (by simpa using hat)
  unfold OwnV
  rw [List.map_append]
  exact ho2

set_option maxHeartbeats 2000000 in
theorem openAt_any (l r m k : Int) (w : World) (hl : 0 ≤ l ∧ l ≤ 20) (hr : 0 ≤ r ∧ r ≤ 20) (hm : 0 ≤ m ∧ m ≤ 20) (hk : 0 ≤ k ∧ k ≤ 20) :
    Calls Try.prog 132 #[.agg #[.int .i64 l, .int .i64 r], .int .i64 m, .int .i64 k] w fun e w' => e = .returned (.agg #[.int .i64 (opnL l m), .int .i64 (opnR l r m k)]) ∧ Below w.heap.size w w' := by
  by_cases h1 : m ≤ l
  · have HL : Hid (opnL l m = l + 1) := by rw [Hid, opnL, if_pos h1]
    have h4 : ¬ l < m := by omega
    by_cases h2 : m ≤ r
    · have HR : Hid (opnR l r m k = r + 1) := by rw [Hid, opnR, if_pos h2, if_neg (by omega)]
      by_cases h3 : r = k - 1
      all_goals
        first | (have hq : (r == k - 1) = true := by simp only [beq_iff_eq]; exact h3) | (have hq : (r == k - 1) = false := by rw [beq_eq_false_iff_ne]; exact h3)
        clear h3
        go_enter Try.func132, Try.ntmps132
        go_wp2_with fail
        refine bodyPost_ret (v := .agg #[.int .i64 (l + 1), .int .i64 (r + 1)]) (by simp [results, Try.results132, go_sem]) rfl ?_
        exact ⟨by rw [HL.out, HR.out], (by repeat (first | exact Below.refl _ _ | assumption | refine Below.alloc ?_ (by first | exact Nat.le_refl _ | (simp only [World.size_alloc, World.size_setCell, World.size_drew]; omega) | omega) _ | refine Below.setCell ?_ (by first | exact Nat.le_refl _ | (simp only [World.size_alloc, World.size_setCell, World.size_drew]; omega) | omega) _ | refine Below.drew ?_))⟩
    · have HR : Hid (opnR l r m k = r) := by rw [Hid, opnR, if_neg h2]
      by_cases h3 : r = k - 1
      all_goals
        first | (have hq : (r == k - 1) = true := by simp only [beq_iff_eq]; exact h3) | (have hq : (r == k - 1) = false := by rw [beq_eq_false_iff_ne]; exact h3)
        clear h3
        go_enter Try.func132, Try.ntmps132
        go_wp2_with fail
        refine bodyPost_ret (v := .agg #[.int .i64 (l + 1), .int .i64 r]) (by simp [results, Try.results132, go_sem]) rfl ?_
        exact ⟨by rw [HL.out, HR.out], (by repeat (first | exact Below.refl _ _ | assumption | refine Below.alloc ?_ (by first | exact Nat.le_refl _ | (simp only [World.size_alloc, World.size_setCell, World.size_drew]; omega) | omega) _ | refine Below.setCell ?_ (by first | exact Nat.le_refl _ | (simp only [World.size_alloc, World.size_setCell, World.size_drew]; omega) | omega) _ | refine Below.drew ?_))⟩
  · have HL : Hid (opnL l m = l) := by rw [Hid, opnL, if_neg h1]
    have h4 : l < m := by omega
    by_cases h2 : m ≤ r
    · by_cases h3 : r = k - 1
      · have HR : Hid (opnR l r m k = m) := by rw [Hid, opnR, if_pos h2, if_pos ⟨h3, h4⟩]
        have hq : (r == k - 1) = true := by simp [h3]
        clear h3
        go_enter Try.func132, Try.ntmps132
        go_wp2_with fail
        refine bodyPost_ret (v := .agg #[.int .i64 l, .int .i64 m]) (by simp [results, Try.results132, go_sem]) rfl ?_
        exact ⟨by rw [HL.out, HR.out], (by repeat (first | exact Below.refl _ _ | assumption | refine Below.alloc ?_ (by first | exact Nat.le_refl _ | (simp only [World.size_alloc, World.size_setCell, World.size_drew]; omega) | omega) _ | refine Below.setCell ?_ (by first | exact Nat.le_refl _ | (simp only [World.size_alloc, World.size_setCell, World.size_drew]; omega) | omega) _ | refine Below.drew ?_))⟩
      · have HR : Hid (opnR l r m k = r + 1) := by rw [Hid, opnR, if_pos h2, if_neg (by omega)]
        have hq : (r == k - 1) = false := by simp [h3]
        clear h3
        go_enter Try.func132, Try.ntmps132
        go_wp2_with fail
        refine bodyPost_ret (v := .agg #[.int .i64 l, .int .i64 (r + 1)]) (by simp [results, Try.results132, go_sem]) rfl ?_
        exact ⟨by rw [HL.out, HR.out], (by repeat (first | exact Below.refl _ _ | assumption | refine Below.alloc ?_ (by first | exact Nat.le_refl _ | (simp only [World.size_alloc, World.size_setCell, World.size_drew]; omega) | omega) _ | refine Below.setCell ?_ (by first | exact Nat.le_refl _ | (simp only [World.size_alloc, World.size_setCell, World.size_drew]; omega) | omega) _ | refine Below.drew ?_))⟩
    · have HR : Hid (opnR l r m k = r) := by rw [Hid, opnR, if_neg h2]
      by_cases h3 : r = k - 1
      all_goals
        first | (have hq : (r == k - 1) = true := by simp only [beq_iff_eq]; exact h3) | (have hq : (r == k - 1) = false := by rw [beq_eq_false_iff_ne]; exact h3)
        clear h3
        go_enter Try.func132, Try.ntmps132
        go_wp2_with fail
        refine bodyPost_ret (v := .agg #[.int .i64 l, .int .i64 r]) (by simp [results, Try.results132, go_sem]) rfl ?_
        exact ⟨by rw [HL.out, HR.out], (by repeat (first | exact Below.refl _ _ | assumption | refine Below.alloc ?_ (by first | exact Nat.le_refl _ | (simp only [World.size_alloc, World.size_setCell, World.size_drew]; omega) | omega) _ | refine Below.setCell ?_ (by first | exact Nat.le_refl _ | (simp only [World.size_alloc, World.size_setCell, World.size_drew]; omega) | omega) _ | refine Below.drew ?_))⟩

def oc1 (s : Int) : Int := IntKind.u64.wrap (bits .and .u64 (s / 2) 6148914691236517205 + bits .and .u64 s 6148914691236517205)
def oc2 (s : Int) : Int := IntKind.u64.wrap (bits .and .u64 (oc1 s / 4) 3689348814741910323 + bits .and .u64 (oc1 s) 3689348814741910323)
def oc3 (s : Int) : Int := bits .and .u64 (IntKind.u64.wrap (oc2 s / 16 + oc2 s)) 1085102592571150095
def oc4 (s : Int) : Int := IntKind.u64.wrap (oc3 s + oc3 s / 256)
def oc5 (s : Int) : Int := IntKind.u64.wrap (oc4 s + oc4 s / 65536)
def oc6 (s : Int) : Int := IntKind.u64.wrap (oc5 s + oc5 s / 4294967296)
theorem oc_all : ∀ s : Fin 1024, bits .and .i64 (IntKind.i64.wrap (oc6 (s.val : Int))) 127 = ((elems s.val).length : Int) := by decide +kernel
theorem oc_eq {s : Nat} (h : s < 1024) : bits .and .i64 (wrap64 (oc6 (s : Int))) 127 = ((elems s).length : Int) := by
  rw [← IntWalk.i64_left]
  exact oc_all ⟨s, h⟩
theorem ones64_any (s : Nat) (w : World) (h1 : s < 1024) :
    Calls Try.prog 178 #[.int .u64 (s : Int)] w fun e w' => e = .returned (.int .i64 ((elems s).length : Int)) ∧ w = w' := by
  go_enter Try.func178, Try.ntmps178
  go_wp2_with fail
  go_ret
  refine ⟨?_, rfl⟩
  rw [← oc_eq h1]
  rfl
theorem ones_any (s : Nat) (w : World) (h1 : s < 1024) :
    Calls Try.prog 164 #[.int .u64 (s : Int)] w fun e w' => e = .returned (.int .i64 ((elems s).length : Int)) ∧ w = w' := by
  go_enter Try.func164, Try.ntmps164
  go_wp2_with fail
  refine (ones64_any s _ h1).mono ?_
  rintro e w' ⟨rfl, rfl⟩
  go_wp2_with fail
  go_ret
  exact ⟨rfl, rfl⟩
theorem countElements_any (s : Nat) (w : World) (h1 : s < 1024) :
    Calls Try.prog 131 #[.int .i64 (s : Int)] w fun e w' => e = .returned (.int .i64 ((elems s).length : Int)) ∧ w = w' := by
  have s1 : (s : Int) < 1024 := by omega
  go_enter Try.func131, Try.ntmps131
  go_wp2_with fail
  refine (ones_any s _ h1).mono ?_
  rintro e w' ⟨rfl, rfl⟩
  go_wp2_with fail
  go_ret
  exact ⟨rfl, rfl⟩

set_option maxRecDepth 100000 in
set_option maxHeartbeats 4000000 in
theorem buildIv_any (a : Option Addr) (cs : List Int) (n c K : Nat) (m : Int) (B : Nat) (w : World) (hown : OwnV w B (.slice a n c) n cs) (hB : B ≤ w.heap.size) (hn : n ≤ 9) (hm : 0 ≤ m ∧ m ≤ 20) (hK : K ≤ 10) (hb : ∀ j, j < n → 0 ≤ lft cs j ∧ lft cs j < (K : Int) ∧ 0 ≤ rgt cs j ∧ rgt cs j < (K : Int)) (hf : 0 < n → 0 < K ∧ lfS cs n = 2 ^ K - 1) (h0 : n = 0 → m = 0 ∧ K = 0) :
    Calls Try.prog 94 #[.slice a n c, .int .i64 m] w fun e w' => ∃ a' c', e = .returned (.slice a' (n+1) c') ∧ OwnV w' B (.slice a' (n+1) c') (n+1) (agL cs n m (K : Int)) ∧ w.grownBy w' (Value.slice a n c).ownBlock := by
  have HL := Lib.hid hown.len
  by_cases hz : n = 0
  · subst hz
    obtain ⟨rfl, rfl⟩ := h0 rfl
    have hcs : cs = [] := List.eq_nil_of_length_eq_zero (by have := HL.out; omega)
    subst hcs
    have HA : Hid (agL [] 0 0 0 = [0, 0]) := by simp [Hid, agL, opnB, dTo, opnV, prs, fmap]
    go_enter Try.func94, Try.ntmps94
    go_wp2_with fail
    go_ret
    exact ⟨some ⟨w.heap.size, 0, none⟩, 1, rfl, by rw [HA.out]; exact World.ownsRow_lit w #[.int .i64 0, .int .i64 0] 1 hB (by unfold maxLen; omega) rfl, World.grownBy_alloc _ _ _⟩
  · have ⟨hK0, hfull⟩ := hf (by omega)
    obtain ⟨g, rfl, hg0, hg1⟩ := hown.head (by omega)
    have HB := Lib.hid hb
    have HLS : Hid (∀ j, j ≤ n → lfS cs j < 1024) := lfS_small hK (fun j hj => ⟨(hb j hj).1, (hb j hj).2.1⟩)
    have HF := Lib.hid hfull
    have HEL := Lib.hid (elems_full ⟨K, by omega⟩)
    have hn0 : ((n : Int) == 0) = false := by simp; omega
    clear hb hf h0 hfull
    go_enter Try.func94, Try.ntmps94
    go_wp2_with fail
    go_loopw [5, 21] (fun s i wr => ∃ j : Nat, j ≤ n ∧ i = .int .i64 j ∧ s = .int .i64 ((lfS cs j : Nat) : Int) ∧ Below w.heap.size w wr) (fun _ i _ => n - (intOf i).toNat)
    case atStart => exact ⟨0, Nat.zero_le _, rfl, rfl, Below.refl _ _⟩
    case round =>
      obtain ⟨j, hj, rfl, rfl, hb⟩ := hrel
      have hbs := hb.size
      have o1 := hown.below hb (Nat.le_refl _)
      have hls := HLS.out j hj
      by_cases hlt : j < n
      · obtain ⟨b, off, e1, hbl, hc1, hc2⟩ := (o1.rd (by omega)).pair HL.out hlt
        simp only [Option.some.injEq, Addr.mk.injEq, and_true] at e1
        obtain ⟨rfl, rfl⟩ := e1
        rw [Nat.zero_add] at hc1 hc2
        have ⟨l0, l1, r0, r1⟩ := HB.out j hlt
        obtain ⟨L, hL⟩ := Int.eq_ofNat_of_zero_le l0
        have HN : Hid (lfS cs (j+1) = lfS cs j ||| 2 ^ L) := by rw [Hid, lfS, hL]; rfl
        rw [hL] at hc1 l1
        have HO := Lib.hid (or_bit (b := lfS cs j) (k := L) (by omega) (by omega))
        clear hL l0
        go_wp2_with fail
        go_roundw
        case rel => exact ⟨j + 1, by omega, by go_num, by rw [HO.out, HN.out], hb.alloc hbs _⟩
        case measure => simp [intOf]; omega
      · obtain rfl : j = n := by omega
        have HCE := Lib.hid (countElements_any (lfS cs j) wr hls)
        go_wp2_with fail
        refine HCE.out.mono ?_
        rintro e w2 ⟨rfl, rfl⟩
        rw [HF.out, HEL.out]
        go_wp2_with fail
        go_loopw [9, 36] (fun d i wr => ∃ q : Nat, q ≤ j ∧ i = .int .i64 q ∧ d = .int .i64 (dTo cs (K : Int) q) ∧ Below w.heap.size w wr) (fun _ i _ => j - (intOf i).toNat)
        case atStart => exact ⟨0, Nat.zero_le _, rfl, rfl, hb⟩
        case round =>
          clear hb hbs o1 hls HCE
          obtain ⟨q, hq, rfl, rfl, hb⟩ := hrel
          have hbs := hb.size
          have o1 := hown.below hb (Nat.le_refl _)
          have hdl := (dTo_le (cs := cs) (k := (K : Int)) (n := q)).1
          by_cases hlt2 : q < j
          · obtain ⟨b, off, e1, hbl, hc1, hc2⟩ := (o1.rd (by omega)).pair HL.out hlt2
            simp only [Option.some.injEq, Addr.mk.injEq, and_true] at e1
            obtain ⟨rfl, rfl⟩ := e1
            rw [Nat.zero_add] at hc1 hc2
            have ⟨l0, l1, r0, r1⟩ := HB.out q hlt2
            by_cases hr : rgt cs q = (K : Int) - 1
            · have HN : Hid (dTo cs (K : Int) (q+1) = min (dTo cs (K : Int) q) (lft cs q)) := by rw [Hid, dTo, if_pos hr]
              have hq1 : (rgt cs q == (K : Int) - 1) = true := by simp [hr]
              clear hr
              go_wp2_with fail
              go_roundw
              case rel => exact ⟨q + 1, by omega, by go_num, val_int (by rw [HN.out] <;> (first | rfl | omega | (split <;> omega))), hb.alloc hbs _⟩
              case measure => simp [intOf]; omega
            · have HN : Hid (dTo cs (K : Int) (q+1) = dTo cs (K : Int) q) := by rw [Hid, dTo, if_neg hr]
              have hq1 : (rgt cs q == (K : Int) - 1) = false := by simp [hr]
              clear hr
              go_wp2_with fail
              go_roundw
              case rel => exact ⟨q + 1, by omega, by go_num, by rw [HN.out], hb.alloc hbs _⟩
              case measure => simp [intOf]; omega
          · obtain rfl : q = j := by omega
            have g2 : (0 : Int) < (K : Int) := by omega
            by_cases hmd : m ≤ dTo cs (K : Int) q
            · have HA : Hid (agL cs q m (K : Int) = cs ++ [m, (K : Int) - 1]) := by
                have : opnB cs q m (K : Int) = false := by simp [opnB, hmd, hK0]
                simp [Hid, agL, this]
              go_wp2_with (at_builtin; refine push_iv rfl _ _ rfl rfl rfl o1 rfl (by omega) (by omega) ?_; intro v5 w5 o5 hg5 hat5)
              obtain ⟨a5, c5, rfl⟩ := o5.form
              go_ret
              exact ⟨a5, c5, rfl, by rw [HA.out]; exact o5, grown_trans (below_grown hb (Nat.le_refl _) _) hg5⟩
            · have HA : Hid (agL cs q m (K : Int) = opnV cs m (K : Int) q ++ [m, (K : Int)]) := by
                have : opnB cs q m (K : Int) = true := by simp [opnB, hmd]
                simp [Hid, agL, this]
              have o2 : OwnV wr B (.slice (some ⟨g, 0, none⟩) q c) q (mixV cs m (K : Int) q 0) := by rw [mixV_zero HL.out]; exact o1
              have hg2 : w.grownBy wr (some g) := below_grown hb (Nat.le_refl _) _
              go_wp2_with fail
              go_loopw [62] (fun i wi => ∃ p : Nat, p ≤ q ∧ i = .int .i64 p ∧ OwnV wi B (.slice (some ⟨g, 0, none⟩) q c) q (mixV cs m (K : Int) q p) ∧ w.grownBy wi (some g)) (fun i _ => q - (intOf i).toNat)
              case atStart => exact ⟨0, Nat.zero_le _, rfl, o2, hg2⟩
              case round =>
                clear hb hbs o1 o2 hg2
                obtain ⟨p, hp, rfl, hown2, hgw⟩ := hrel
                by_cases hlt3 : p < q
                · have hml := mixV_len cs m (K : Int) q p
                  have ⟨c1, f1⟩ := hown2.at' (i := p * 2) (by omega)
                  have ⟨c2, f2⟩ := hown2.at' (i := p * 2 + 1) (by omega)
                  have e1 : nth (mixV cs m (K : Int) q p) (p * 2) = lft cs p := mixV_lft hlt3 (Nat.le_refl _)
                  have e2 : nth (mixV cs m (K : Int) q p) (p * 2 + 1) = rgt cs p := mixV_rgt hlt3 (Nat.le_refl _)
                  rw [e1] at c1
                  rw [e2] at c2
                  have ⟨l0, l1, r0, r1⟩ := HB.out p hlt3
                  have HX : Hid (((mixV cs m (K : Int) q p).set (p * 2) (opnL (lft cs p) m)).set (p * 2 + 1) (opnR (lft cs p) (rgt cs p) m (K : Int)) = mixV cs m (K : Int) q (p+1)) := mixV_next hlt3
                  have hgl := (hown2.lt g rfl).2
                  have hBg := (hown2.lt g rfl).1
                  clear e1 e2
                  go_wp2_with fail
                  refine (openAt_any _ _ _ _ _ (by omega) (by omega) hm (by omega)).mono ?_
                  rintro e w3 ⟨rfl, hb3⟩
                  have ht3 : Below wr.heap.size wr w3 := Below.trans (by repeat (first | exact Below.refl _ _ | assumption | refine Below.alloc ?_ (by first | exact Nat.le_refl _ | (simp only [World.size_alloc, World.size_setCell, World.size_drew]; omega) | omega) _ | refine Below.setCell ?_ (by first | exact Nat.le_refl _ | (simp only [World.size_alloc, World.size_setCell, World.size_drew]; omega) | omega) _ | refine Below.drew ?_)) (hb3.mono (by first | (simp only [World.size_alloc, World.size_setCell, World.size_drew]; omega) | omega))
                  have o3 := hown2.below ht3 (Nat.le_refl _)
                  have ⟨c3, f3⟩ := o3.at' (i := p * 2) (by omega)
                  have ⟨c4, f4⟩ := o3.at' (i := p * 2 + 1) (by omega)
                  have q1 := o3.put (p * 2) (opnL (lft cs p) m)
                  have q2 := q1.1.put (p * 2 + 1) (opnR (lft cs p) (rgt cs p) m (K : Int))
                  rw [HX.out] at q2
                  have HQ2 := Lib.hid (And.intro q2.1 (grown_trans (grown_trans (grown_trans hgw (below_grown ht3 (Nat.le_refl _) _)) q1.2) q2.2))
                  clear hown2 q1 q2 hml c1 f1 c2 f2 hgw
                  go_wp2_with fail
                  go_roundw
                  case rel => exact ⟨p + 1, by omega, by go_num, HQ2.out.1, HQ2.out.2⟩
                  case measure => simp [intOf]; omega
                · obtain rfl : p = q := by omega
                  rw [mixV_all] at hown2
                  have hgs := hgw.size
                  go_wp2_with (at_builtin; refine push_iv rfl _ _ rfl rfl rfl hown2 rfl (by omega) (by omega) ?_; intro v5 w5 o5 hg5 hat5)
                  obtain ⟨a5, c5, rfl⟩ := o5.form
                  go_ret
                  exact ⟨a5, c5, rfl, by rw [HA.out]; exact o5, grown_trans hgw hg5⟩

theorem ag_bd {xs : List Int} (h : ascB xs = true) {i : Nat} (hi : i < xs.length) (h10 : xs.length ≤ 10) :
    (0 ≤ nth xs i ∧ nth xs i ≤ 20) ∧ (0 ≤ (agC xs i).2 ∧ (agC xs i).2 ≤ 20) ∧ (∀ j, j < i → 0 ≤ lft (agC xs i).1 j ∧ lft (agC xs i).1 j ≤ 20 ∧ 0 ≤ rgt (agC xs i).1 j ∧ rgt (agC xs i).1 j ≤ 20) ∧ (0 < i → 0 < (agC xs i).2) := by
  have h1 := ascB_small h hi
  refine ⟨by omega, ?_⟩
  cases i with
  | zero => exact ⟨by simp [agC], fun j hj => by omega, fun h => by omega⟩
  | succ i =>
    have hp := ag_ok h i (by omega)
    have h2 := ascTo_le xs (i+1)
    have h3 := hp.asc
    refine ⟨by omega, fun j hj => ?_, fun _ => by omega⟩
    have := hp.bd j hj
    omega

theorem ag_no {xs : List Int} (h : agB xs = false) : agN xs = 0 ∧ agV xs = [] := by simp [agN, agV, h]
theorem ag_yes {xs : List Int} (h : agB xs = true) : agN xs = xs.length ∧ agV xs = (agC xs xs.length).1 := by simp [agN, agV, h]

theorem ag_nat {xs : List Int} (h : ascB xs = true) {i : Nat} (hi : i < xs.length) (h10 : xs.length ≤ 10) : ∃ K : Nat, (agC xs i).2 = (K : Int) ∧ K ≤ 10 ∧ (∀ j, j < i → 0 ≤ lft (agC xs i).1 j ∧ lft (agC xs i).1 j < (K : Int) ∧ 0 ≤ rgt (agC xs i).1 j ∧ rgt (agC xs i).1 j < (K : Int)) ∧ (0 < i → 0 < K ∧ lfS (agC xs i).1 i = 2 ^ K - 1) ∧ (i = 0 → nth xs i = 0 ∧ K = 0) := by
  cases i with
  | zero =>
    have h1 := ascB_nth h hi
    rw [bndTo_zero] at h1
    exact ⟨0, rfl, by omega, fun j hj => by omega, fun h => by omega, fun _ => ⟨by omega, rfl⟩⟩
  | succ i =>
    have hp := ag_ok h i (by omega)
    have h2 := ascTo_le xs (i+1)
    have h3 := hp.asc
    obtain ⟨K, hK⟩ := Int.eq_ofNat_of_zero_le (show 0 ≤ (agC xs (i+1)).2 by omega)
    have hb : ∀ j, j < i + 1 → 0 ≤ lft (agC xs (i+1)).1 j ∧ lft (agC xs (i+1)).1 j < (K : Int) ∧ 0 ≤ rgt (agC xs (i+1)).1 j ∧ rgt (agC xs (i+1)).1 j < (K : Int) := fun j hj => by
      have := hp.bd j hj
      omega
    exact ⟨K, hK, by omega, hb, fun _ => ⟨by omega, lfS_full (fun j hj => ⟨(hb j hj).1, (hb j hj).2.1⟩) (fun v h0 h1 => hp.all v h0 (by omega))⟩, fun h => by omega⟩
theorem iIntervals_any (a : Option Addr) (xs : List Int) (cap : Nat) (w : World) (hx : Rd w a xs) (_ : xs.length ≤ cap) :
    Calls Try.prog 38 #[.slice a xs.length cap] w (GotV w (agN xs) (agV xs) (agB xs)) := by
  have hlen := hx.len
  unfold GotV
  cases h : ascB xs
  · have HB : Hid (agB xs = false) := by simp [Hid, agB, h]
    have HN : Hid (agN xs = 0 ∧ agV xs = []) := by simp [Hid, agN, agV, HB.out]
    have HA := Lib.hid h
    clear h
    go_enter Try.func38, Try.ntmps38
    go_wp2_with fail
    refine (iIsAscent_any _ _ _ _ hx).mono ?_
    rintro e w1 ⟨rfl, hb⟩
    rw [HA.out]
    go_wp2_with fail
    refine bodyPost_ret (v := .tuple #[.slice none 0 0, .bool false]) (by simp [results, Try.results38, go_sem]) rfl ?_
    exact ⟨none, 0, by rw [HN.out.1, HB.out], by rw [HN.out.1, HN.out.2]; exact OwnV.nil _ _, hb⟩
  · by_cases h10 : xs.length ≤ 10
    · have HB : Hid (agB xs = true) := by simp [Hid, agB, h, h10]
      have HN : Hid (agN xs = xs.length ∧ agV xs = (agC xs xs.length).1) := by simp [Hid, agN, agV, HB.out]
      have HA := Lib.hid h
      clear h
      go_enter Try.func38, Try.ntmps38
      go_wp2_with fail
      refine (iIsAscent_any _ _ _ _ hx).mono ?_
      rintro e w1 ⟨rfl, hb⟩
      rw [HA.out]
      go_wp2_with fail
      go_loopw [4, 17] (fun v i wr => ∃ j : Nat, j ≤ xs.length ∧ i = .int .i64 j ∧ OwnV wr w.heap.size v j (agC xs j).1 ∧ Below w.heap.size w wr) (fun _ i _ => xs.length - (intOf i).toNat)
      case atStart => exact ⟨0, Nat.zero_le _, rfl, OwnV.nil _ _, hb⟩
      case round =>
        clear hb
        obtain ⟨j, hj, rfl, hown, hb⟩ := hrel
        have hbs := hb.size
        obtain ⟨av, cv, rfl⟩ := hown.form
        by_cases hlt : j < xs.length
        · obtain ⟨b, off, rfl, hbl, hc⟩ := (hx.below hb).cell j hlt
          have ⟨K, hK, hK10, hbd, hfull, hz⟩ := ag_nat HA.out hlt h10
          have ⟨x0, x1⟩ := ascB_small HA.out hlt
          have HN1 : Hid ((agC xs (j+1)).1 = agL (agC xs j).1 j (nth xs j) (K : Int)) := by rw [Hid, ← hK]; rfl
          have hcall := buildIv_any av (agC xs j).1 j cv K (nth xs j) w.heap.size wr hown hbs (by omega) ⟨x0, by omega⟩ hK10 hbd hfull hz
          have HCL := Lib.hid hcall
          have hlt4 := Lib.hid hown.lt
          clear hcall hK hbd hfull hz hown
          go_wp2_with fail
          refine HCL.out.mono ?_
          rintro e w2 ⟨a2, c2, rfl, ho2, hg2⟩
          go_wp2_with fail
          go_roundw
          case rel => exact ⟨j + 1, by omega, by go_num, by rw [HN1.out]; exact ho2, hb.trans (below_of_grown hg2 (fun c e => (hlt4.out c e).1) hbs)⟩
          case measure => simp [intOf]; omega
        · obtain rfl : j = xs.length := by omega
          go_wp2_with fail
          refine bodyPost_ret (v := .tuple #[.slice av xs.length cv, .bool true]) (by simp [results, Try.results38, go_sem]) rfl ?_
          exact ⟨av, cv, by rw [HN.out.1, HB.out], by rw [HN.out.1, HN.out.2]; exact hown, hb⟩
    · have HB : Hid (agB xs = false) := by simp [Hid, agB, h10]
      have HN : Hid (agN xs = 0 ∧ agV xs = []) := by simp [Hid, agN, agV, HB.out]
      have HA := Lib.hid h
      clear h
      go_enter Try.func38, Try.ntmps38
      go_wp2_with fail
      refine (iIsAscent_any _ _ _ _ hx).mono ?_
      rintro e w1 ⟨rfl, hb⟩
      rw [HA.out]
      go_wp2_with fail
      refine bodyPost_ret (v := .tuple #[.slice none 0 0, .bool false]) (by simp [results, Try.results38, go_sem]) rfl ?_
      exact ⟨none, 0, by rw [HN.out.1, HB.out], by rw [HN.out.1, HN.out.2]; exact OwnV.nil _ _, hb⟩

set_option maxRecDepth 100000 in
set_option maxHeartbeats 8000000 in
theorem walk (a0 : Option Addr) (n0 cap0 : Nat) (a1 : Option Addr) (n1 cap1 : Nat) (w : World) (hR0 : RdB w a0 n0) (hl0 : n0 ≤ 9223372036854775807) (hR1 : RdB w a1 n1) (hl1 : n1 ≤ 9223372036854775807) :
    Calls Try.prog 5 #[.slice a0 n0 cap0, .slice a1 n1 cap1] w fun e w' => e = .returned (.bool true) ∧ Below w.heap.size w w' := by
  go_enter Try.func5, Try.ntmps5
  go_wp2_with fail
  refine (big_any _ _ _ _ _ _ _ hl0 hl1).mono ?_
  rintro e w' ⟨he, rfl⟩
  rcases he with rfl | ⟨rfl, hb0, hb1⟩
  · go_wp2_with fail
    go_ret
    exact ⟨rfl, (by repeat (first | exact Below.refl _ _ | assumption | refine Below.alloc ?_ (by first | exact Nat.le_refl _ | (simp only [World.size_alloc, World.size_setCell, World.size_drew]; omega) | omega) _ | refine Below.setCell ?_ (by first | exact Nat.le_refl _ | (simp only [World.size_alloc, World.size_setCell, World.size_drew]; omega) | omega) _ | refine Below.drew ?_))⟩
  · go_wp2_with fail
    refine (drModify_any _ _ _ _ hR0 hb0).mono ?_
    rintro e w1 ⟨a, cap, xs, rfl, ho, hl, hx, hb⟩
    have hcp := ho.capLe
    have HB := Lib.hid hb
    have HR := Lib.hid ho.rd
    have HM := Lib.hid (hR1.below hb)
    clear hx ho hb hR0 hR1 hl0 hl1 hb0
    obtain ⟨X, hX⟩ : ∃ X, X = modL xs := ⟨_, rfl⟩
    obtain ⟨F, hF⟩ : ∃ F, F = ascB xs := ⟨_, rfl⟩
    have HIM := Lib.hid (fun W (h : Rd W a xs) => iModify_any a xs cap W h)
    have HSM := Lib.hid (fun W (h : Rd W a xs) => sModify_any a xs cap W h hcp)
    rw [← hX, ← hF] at HIM HSM
    have HEQ : Hid (∀ l : List Int, eqL l l = true) := fun l => by simp [eqL]
    have q1 : (F != F) = false := by simp
    have HXE := Lib.hid hX
    have HFE := Lib.hid hF
    clear hX hF
    go_wp2_with fail
    refine (HIM.out _ HR.out).mono ?_
    rintro e w3 ⟨a3, c3, rfl, ho3, hb3⟩
    replace HB := Lib.hid (HB.out.trans (hb3.mono HB.out.size))
    replace HR := Lib.hid (HR.out.below hb3)
    replace HM := Lib.hid (HM.out.below hb3)
    clear hb3
    have HC := Lib.hid ho3.rd
    have hcp3 := ho3.capLe
    clear ho3
    go_wp2_with fail
    refine (HSM.out _ HR.out).mono ?_
    rintro e w4 ⟨a4, c4, rfl, ho4, hb4⟩
    replace HB := Lib.hid (HB.out.trans (hb4.mono HB.out.size))
    replace HR := Lib.hid (HR.out.below hb4)
    replace HM := Lib.hid (HM.out.below hb4)
    replace HC := Lib.hid (HC.out.below hb4)
    clear hb4
    have HD := Lib.hid ho4.rd
    clear ho4 HIM HSM
    go_wp2_with fail
    refine ((pSame_any a3 a4 X X c3 c4 _ HC.out HD.out)).mono ?_
    rw [HEQ.out]
    rintro e w5 ⟨rfl, hb5⟩
    replace HB := Lib.hid (HB.out.trans (hb5.mono HB.out.size))
    replace HR := Lib.hid (HR.out.below hb5)
    replace HM := Lib.hid (HM.out.below hb5)
    replace HC := Lib.hid (HC.out.below hb5)
    replace HD := Lib.hid (HD.out.below hb5)
    clear hb5
    clear HD
    go_wp2_with fail
    refine (drUnmod_any _ _ _ _ HM.out hb1).mono ?_
    rintro e w6 ⟨a6, c6, ys, rfl, ho6, hl6, hx6, hb6⟩
    replace HB := Lib.hid (HB.out.trans (hb6.mono HB.out.size))
    replace HR := Lib.hid (HR.out.below hb6)
    replace HM := Lib.hid (HM.out.below hb6)
    replace HC := Lib.hid (HC.out.below hb6)
    clear hb6
    have hcp6 := ho6.capLe
    have HY := Lib.hid ho6.rd
    clear ho6 hx6 HM
    obtain ⟨Z, hZ⟩ : ∃ Z, Z = unmL ys := ⟨_, rfl⟩
    obtain ⟨G, hG⟩ : ∃ G, G = unmB ys := ⟨_, rfl⟩
    have HIU := Lib.hid (fun W (h : Rd W a6 ys) => iUnmod_any a6 ys c6 W h hcp6)
    have HSU := Lib.hid (fun W (h : Rd W a6 ys) => sUnmod_any a6 ys c6 W h hcp6)
    rw [← hZ, ← hG] at HIU HSU
    have q2 : (G != G) = false := by simp
    have HZE := Lib.hid hZ
    have HGE := Lib.hid hG
    clear hZ hG
    go_wp2_with fail
    refine (HIU.out _ HY.out).mono ?_
    rintro e w7 ⟨a7, c7, rfl, ho7, hb7⟩
    replace HB := Lib.hid (HB.out.trans (hb7.mono HB.out.size))
    replace HR := Lib.hid (HR.out.below hb7)
    replace HC := Lib.hid (HC.out.below hb7)
    replace HY := Lib.hid (HY.out.below hb7)
    clear hb7
    have HU := Lib.hid ho7.rd
    have hcp7 := ho7.capLe
    clear ho7
    go_wp2_with fail
    refine (HSU.out _ HY.out).mono ?_
    rintro e w8 ⟨a8, c8, rfl, ho8, hb8⟩
    replace HB := Lib.hid (HB.out.trans (hb8.mono HB.out.size))
    replace HR := Lib.hid (HR.out.below hb8)
    replace HC := Lib.hid (HC.out.below hb8)
    replace HY := Lib.hid (HY.out.below hb8)
    replace HU := Lib.hid (HU.out.below hb8)
    clear hb8
    have HD := Lib.hid ho8.rd
    clear ho8 HIU HSU
    go_wp2_with fail
    refine ((pSame_any a7 a8 Z Z c7 c8 _ HU.out HD.out)).mono ?_
    rw [HEQ.out]
    rintro e w9 ⟨rfl, hb9⟩
    replace HB := Lib.hid (HB.out.trans (hb9.mono HB.out.size))
    replace HR := Lib.hid (HR.out.below hb9)
    replace HC := Lib.hid (HC.out.below hb9)
    replace HY := Lib.hid (HY.out.below hb9)
    replace HU := Lib.hid (HU.out.below hb9)
    replace HD := Lib.hid (HD.out.below hb9)
    clear hb9
    clear HD
    cases hGG : G
    case' false =>
      obtain ⟨w11, e11⟩ : ∃ x, x = w9 := ⟨_, rfl⟩
      subst e11
      clear HY HU
    case' true =>
      have hub : unmB ys = true := by rw [← HGE.out]; exact hGG
      have hfw := unm_fwd hub
      have hZ2 : Z = undS ys ys.length := by rw [HZE.out]; exact by rw [unmL, if_pos hub]
      rw [← hZ2] at hfw
      have HMB : Hid (∀ W, Rd W a7 Z → Calls Try.prog 30 #[.slice a7 Z.length c7] W fun e w' => ∃ a' cap', e = .returned (.tuple #[.slice a' ys.length cap', .bool true]) ∧ OwnI w' W.heap.size (.slice a' ys.length cap') ys ∧ Below W.heap.size W w') := fun W h => by
        have := iModify_any a7 Z c7 W h
        rw [modL, if_pos hfw.1, hfw.2, hfw.1] at this
        exact this
      clear hub hfw hZ2
      go_wp2_with fail
      refine (HMB.out _ HU.out).mono ?_
      rintro e w10 ⟨a10, c10, rfl, ho10, hb10⟩
      replace HB := Lib.hid (HB.out.trans (hb10.mono HB.out.size))
      replace HR := Lib.hid (HR.out.below hb10)
      replace HC := Lib.hid (HC.out.below hb10)
      replace HY := Lib.hid (HY.out.below hb10)
      replace HU := Lib.hid (HU.out.below hb10)
      clear hb10
      have HD := Lib.hid ho10.rd
      clear ho10 HMB
      go_wp2_with fail
      refine ((pSame_any a10 a6 ys ys c10 c6 _ HD.out HY.out)).mono ?_
      rw [HEQ.out]
      rintro e w11 ⟨rfl, hb11⟩
      replace HB := Lib.hid (HB.out.trans (hb11.mono HB.out.size))
      replace HR := Lib.hid (HR.out.below hb11)
      replace HC := Lib.hid (HC.out.below hb11)
      replace HY := Lib.hid (HY.out.below hb11)
      replace HD := Lib.hid (HD.out.below hb11)
      clear hb11
      clear HD HY HU
    all_goals
      clear HZE HGE hGG q2
      cases hFF : F
      · go_wp2_with fail
        go_ret
        exact ⟨rfl, HB.out⟩
      · have hA : ascB xs = true := by rw [← HFE.out]; exact hFF
        have hX2 : X = modTo xs xs.length := by rw [HXE.out, modL, if_pos hA]
        have hbk := mod_back hA
        have hub := unmL_back hA
        rw [← hX2] at hbk hub
        have hagm := ag_mod hA xs.length (Nat.le_refl _)
        rw [← hX2] at hagm
        have HUB : Hid (∀ W, Rd W a3 X → Calls Try.prog 34 #[.slice a3 X.length c3] W fun e w' => ∃ a' cap', e = .returned (.tuple #[.slice a' xs.length cap', .bool true]) ∧ OwnI w' W.heap.size (.slice a' xs.length cap') xs ∧ Below W.heap.size W w') := fun W h => by
          have := iUnmod_any a3 X c3 W h hcp3
          rw [hub, hbk.1] at this
          exact this
        have HST : Hid (∀ W, Rd W a xs → Calls Try.prog 36 #[.slice a xs.length cap] W fun e w' => e = .returned (.tuple #[.bool (eqL X xs), .bool true]) ∧ Below W.heap.size W w') := fun W h => by
          have := iSteady_any a xs cap W h hcp
          rw [stdB, hA, Bool.true_and, ← hX2] at this
          exact this
        have HAS : Hid (∀ W a' c', Rd W a' xs → Calls Try.prog 37 #[.slice a' xs.length c'] W fun e w' => e = .returned (.tuple #[.int .i64 (aoN xs), .bool true]) ∧ Below W.heap.size W w') := fun W a' c' h => by
          have := iAscentsOf_any a' xs c' W h
          rw [hA] at this
          exact this
        have hxl : X.length = xs.length := by rw [hX2, modTo_len]
        have HIV : Hid (∀ W, Rd W a xs → Calls Try.prog 38 #[.slice a xs.length cap] W (GotV W (agN xs) (agV xs) (agB xs))) := fun W h => iIntervals_any a xs cap W h hcp
        unfold GotV at HIV
        have hgb : agB xs = decide (xs.length ≤ 10) := by rw [agB, hA, Bool.true_and]
        rw [agN, agV, hgb] at HIV
        have hagl := agC_len xs xs.length
        generalize (agC xs xs.length).1 = cs at HIV hagl hagm
        have q3 : (eqL X xs != eqL X xs) = false := by simp
        have HAG := Lib.hid hagm
        have HAL := Lib.hid hagl
        have HXL := Lib.hid hxl
        generalize aoN xs = asc at HAS
        have hao : (asc != asc) = false := by simp
        clear hA hX2 hbk hub hagm hagl hgb hxl HXE HFE hFF q1
        go_wp2_with fail
        refine (HUB.out _ HC.out).mono ?_
        rintro e w12 ⟨a12, c12, rfl, ho12, hb12⟩
        replace HB := Lib.hid (HB.out.trans (hb12.mono HB.out.size))
        replace HR := Lib.hid (HR.out.below hb12)
        replace HC := Lib.hid (HC.out.below hb12)
        clear hb12
        have HU := Lib.hid ho12.rd
        clear ho12 HUB
        go_wp2_with fail
        refine (HST.out _ HR.out).mono ?_
        rintro e w13 ⟨rfl, hb13⟩
        replace HB := Lib.hid (HB.out.trans (hb13.mono HB.out.size))
        replace HR := Lib.hid (HR.out.below hb13)
        replace HC := Lib.hid (HC.out.below hb13)
        replace HU := Lib.hid (HU.out.below hb13)
        clear hb13
        go_wp2_with fail
        refine (HAS.out _ _ _ HR.out).mono ?_
        rintro e w14 ⟨rfl, hb14⟩
        replace HB := Lib.hid (HB.out.trans (hb14.mono HB.out.size))
        replace HR := Lib.hid (HR.out.below hb14)
        replace HC := Lib.hid (HC.out.below hb14)
        replace HU := Lib.hid (HU.out.below hb14)
        clear hb14
        go_wp2_with fail
        refine (HAS.out _ _ _ HU.out).mono ?_
        rintro e w15 ⟨rfl, hb15⟩
        replace HB := Lib.hid (HB.out.trans (hb15.mono HB.out.size))
        replace HR := Lib.hid (HR.out.below hb15)
        replace HC := Lib.hid (HC.out.below hb15)
        replace HU := Lib.hid (HU.out.below hb15)
        clear hb15
        go_wp2_with fail
        refine ((pSame_any a12 a xs xs c12 cap _ HU.out HR.out)).mono ?_
        rw [HEQ.out]
        rintro e w16 ⟨rfl, hb16⟩
        replace HB := Lib.hid (HB.out.trans (hb16.mono HB.out.size))
        replace HR := Lib.hid (HR.out.below hb16)
        replace HC := Lib.hid (HC.out.below hb16)
        replace HU := Lib.hid (HU.out.below hb16)
        clear hb16
        go_wp2_with fail
        refine ((pSame_any a3 a X xs c3 cap _ HC.out HR.out)).mono ?_
        rintro e w17 ⟨rfl, hb17⟩
        replace HB := Lib.hid (HB.out.trans (hb17.mono HB.out.size))
        replace HR := Lib.hid (HR.out.below hb17)
        replace HC := Lib.hid (HC.out.below hb17)
        replace HU := Lib.hid (HU.out.below hb17)
        clear hb17
        generalize eqL X xs = QQ at q3
        go_wp2_with fail
        by_cases h10 : xs.length ≤ 10
        · have HI2 : Hid (∀ W, Rd W a xs → Calls Try.prog 38 #[.slice a xs.length cap] W fun e w' => ∃ a' cap', e = .returned (.tuple #[.slice a' xs.length cap', .bool true]) ∧ OwnV w' W.heap.size (.slice a' xs.length cap') xs.length cs ∧ Below W.heap.size W w') := fun W h => by
            have := HIV.out W h
            rw [decide_eq_true h10, if_pos rfl, if_pos rfl] at this
            exact this
          clear HIV
          refine (HI2.out _ HR.out).mono ?_
          rintro e w18 ⟨a18, c18, rfl, ho18, hb18⟩
          replace HB := Lib.hid (HB.out.trans (hb18.mono HB.out.size))
          replace HR := Lib.hid (HR.out.below hb18)
          replace HC := Lib.hid (HC.out.below hb18)
          replace HU := Lib.hid (HU.out.below hb18)
          clear hb18
          have HV := Lib.hid (ho18.rd (by omega))
          have HCC := HC
          have HBB := HB
          clear ho18 HI2
          go_wp2_with fail
          go_loopw [154] (fun i wr => ∃ k : Nat, k ≤ xs.length ∧ i = .int .i64 k ∧ Below w18.heap.size w18 wr) (fun i _ => xs.length - (intOf i).toNat)
          case atStart => exact ⟨0, Nat.zero_le _, rfl, Below.refl _ _⟩
          case round =>
            obtain ⟨k, hk, rfl, hb⟩ := hrel
            have HT := Lib.hid hb
            by_cases hlt : k < xs.length
            · have k1 : (k : Int) < (xs.length : Int) := by omega
              obtain ⟨b1, o1, rfl, hb1, hc1, hc2⟩ := (HV.out.below hb).pair HAL.out hlt
              obtain ⟨b2, o2, rfl, hb2, hc3⟩ := (HCC.out.below hb).cell k (by rw [HXL.out]; exact hlt)
              rw [HAG.out k hlt] at hc1
              have HXLL := HXL.out
              have k2 : (k : Int) < (X.length : Int) := by omega
              generalize nth X k = z at hc1 hc3
              generalize rgt cs k = z2 at hc2
              have hzz : (z != z) = false := by simp
              clear hb HXLL
              go_wp2_with fail
              go_quiet (fail)
              go_wp2_with fail
              go_roundw
              case rel => exact ⟨k + 1, by omega, by go_num, (HT.out.alloc HT.out.size _).trans (Joins.below_draws _ _ _)⟩
              case measure => simp [intOf]; omega
            · obtain rfl : k = xs.length := by omega
              have hnn : ((xs.length : Int) == (xs.length : Int)) = true := by simp
              have HBz := Lib.hid (HBB.out.trans (hb.mono HBB.out.size))
              clear hb
              go_wp2_with fail
              go_ret
              exact ⟨rfl, HBz.out⟩
        · have HI2 : Hid (∀ W, Rd W a xs → Calls Try.prog 38 #[.slice a xs.length cap] W fun e w' => ∃ a' cap', e = .returned (.tuple #[.slice a' 0 cap', .bool false]) ∧ Below W.heap.size W w') := fun W h => by
            have := HIV.out W h
            rw [decide_eq_false h10, if_neg (by simp), if_neg (by simp)] at this
            refine this.mono ?_
            rintro e w' ⟨a', c', rfl, _, h2⟩
            exact ⟨a', c', rfl, h2⟩
          clear HIV
          refine (HI2.out _ HR.out).mono ?_
          rintro e w18 ⟨a18, c18, rfl, hb18⟩
          replace HB := Lib.hid (HB.out.trans (hb18.mono HB.out.size))
          replace HR := Lib.hid (HR.out.below hb18)
          replace HC := Lib.hid (HC.out.below hb18)
          replace HU := Lib.hid (HU.out.below hb18)
          clear hb18
          have hgt : (10 : Int) < (xs.length : Int) := by omega
          clear HI2
          go_wp2_with fail
          go_ret
          exact ⟨rfl, HB.out⟩

theorem rd_of_trod {H : Type} {enc : TypeId × Value → H} {W : World} {fuel : Nat} {c : Value} {y : DataW H × List MemPlace}
    (h : DataW.trod enc Try.prog W 0 (fun _ => true) true fuel 26 [c] = some y) : ∃ (a : Option Addr) (xs : List Int) (cap : Nat), c = .slice a xs.length cap ∧ Rd W a xs ∧ ∀ k, k < xs.length → (Lit.int .i64 (nth xs k)).wf = true := by
  rcases Go.ChangeShapes.open_ints Try.underlying26 Try.underlying3 (by kernel_rfl) h with ⟨hcs, _⟩ | ⟨x, len, cap, zs, hcs, _, hl, hm, hz, _, hcell, hwf⟩
  · simp only [List.cons.injEq, and_true] at hcs
    exact ⟨none, [], 0, hcs, ⟨by simp, fun k hk => by simp at hk⟩, fun k hk => by simp at hk⟩
  · simp only [List.cons.injEq, and_true] at hcs
    simp only [if_true] at hz
    have hlen : (zs.take len).length = len := by rw [List.length_take]; omega
    have hn : ∀ k, k < len → nth (zs.take len) k = zs.getD k 0 := by
      intro k hk
      simp only [nth, List.getD_eq_getElem?_getD, List.getElem?_take, hk, if_true]
    refine ⟨some x, zs.take len, cap, by rw [hlen]; exact hcs, ⟨by rw [hlen]; unfold maxLen at hm; omega, fun k hk => ?_⟩, fun k hk => ?_⟩
    · rw [hlen] at hk
      obtain ⟨b, off, sp⟩ := x
      have h0 := hcell 0 (by omega)
      have hsp : sp = none := by simpa [Addr.add] using World.cell?_spot h0
      subst hsp
      have hk' := hcell k (by omega)
      rw [Addr.add_lit] at hk'
      exact ⟨b, off, rfl, World.block_lt_of_cell? _ _ h0, by rw [hk', hn k hk]⟩
    · rw [hlen] at hk
      rw [hn k hk]
      have hk2 : k < zs.length := by omega
      exact hwf _ (by rw [List.getD_eq_getElem?_getD, List.getElem?_eq_getElem hk2]; exact List.getElem_mem hk2)

theorem own : ownKnob Try.prog.godebug = none := by kernel_rfl
theorem laidOut : laidOutB Try.prog = true := by kernel_rfl
theorem wf_bd {n : Int} (h : (Lit.int .i64 n).wf = true) : -9223372036854775808 ≤ n ∧ n ≤ 9223372036854775807 := by
  simp [Lit.wf, IntKind.min, IntKind.max, IntKind.bits, IntKind.signed] at h
  omega

theorem wf_byte {n : Int} (h : (Lit.int .u8 n).wf = true) : 0 ≤ n ∧ n ≤ 255 := by
  simp [Lit.wf, IntKind.min, IntKind.max, IntKind.bits, IntKind.signed] at h
  omega
/-- a slice of bytes that was handed over -/
theorem rdB_of_trod {H : Type} {enc : TypeId × Value → H} {W : World} {fuel : Nat} {c : Value} {y : DataW H × List MemPlace}
    (h : DataW.trod enc Try.prog W 0 (fun _ => true) true fuel 22 [c] = some y) : ∃ (a : Option Addr) (n cap : Nat), c = .slice a n cap ∧ RdB W a n ∧ n ≤ 9223372036854775807 := by
  rcases Go.ChangeShapes.open_ints Try.underlying22 Try.underlying5 (by kernel_rfl) h with ⟨hcs, _⟩ | ⟨x, len, cap, zs, hcs, _, hl, hm, hz, _, hcell, hwf⟩
  · simp only [List.cons.injEq, and_true] at hcs
    exact ⟨none, 0, 0, hcs, ⟨fun k hk => by omega⟩, by omega⟩
  · simp only [List.cons.injEq, and_true] at hcs
    simp only [if_true] at hz
    refine ⟨some x, len, cap, hcs, ⟨fun k hk => ?_⟩, by unfold maxLen at hm; omega⟩
    obtain ⟨b, off, sp⟩ := x
    have h0 := hcell 0 (by omega)
    have hsp : sp = none := by simpa [Addr.add] using World.cell?_spot h0
    subst hsp
    have hk' := hcell k (by omega)
    rw [Addr.add_lit] at hk'
    have hk2 : k < zs.length := by omega
    have hw := hwf _ (show zs.getD k 0 ∈ zs by rw [List.getD_eq_getElem?_getD, List.getElem?_eq_getElem hk2]; exact List.getElem_mem hk2)
    refine ⟨b, off, rfl, World.block_lt_of_cell? _ _ h0, zs.getD k 0, hk', ?_⟩
    exact wf_byte hw

open Go.ChangeShapes Go.WideShapes Go.ChangeAt Go.RowKit in
set_option maxRecDepth 100000 in
theorem lifted (os : Os) (started : os.Started) (H : Type) (enc : TypeId × Value → H) :
    ReturnsInHanded {} Try.checked os 5 .any (Rows.fnModifiedAscentsSpec.pre6 enc Try.prog Try.f5 Rows.fnModifiedAscentsRow.domain false) (Rows.fnModifiedAscentsSpec.post enc Try.prog Try.f5 false true false false) := by
  refine returnsInHanded_of_change (C := Try.checked) own started (by kernel_rfl) Try.func5
    (ChangeSpec.witness6 (enc := enc) (C := Try.checked) false ⟨#[], #[.slice none 0 0, .slice none 0 0], []⟩ 8 (by kernel_rfl) (by kernel_rfl) (by kernel_rfl) (by kernel_rfl)) ?_
  intro W base args ds gs before hval0 hW hcnd _
  have hval : ∀ (j : Nat) t v, Try.f5.params[j]? = some t → args[j]? = some v → Value.okWide Try.prog W .any base t v := hval0
  have hW' := hW
  obtain ⟨p, q, hA0, hV, rfl, hfz, hnd⟩ := hW
  have hA : DataW.TrodAll enc Try.prog W 0 (fun _ => true) true Try.f5.params.toList args.toList ds p := hA0
  rw [Try.params5] at hA hval
  obtain ⟨v0, vs0, d0, ds0, p0, q0, hargs, rfl, rfl, h0, r0⟩ := trodAll_cons hA
  obtain ⟨v1, vs1, d1, ds1, p1, q1, rfl, rfl, rfl, h1, r1⟩ := trodAll_cons r0
  obtain ⟨rfl, rfl, rfl⟩ := trodAll_nil r1
  obtain rfl : args = #[v0, v1] := by cases args; simp_all
  obtain ⟨rfl, rfl⟩ := trodVars_none hV
  have lt0 : ∀ x ∈ p0, x.block < W.heap.size := by obtain ⟨m, hm⟩ := h0; exact DataW.trod_lt m _ _ _ hm
  have lt1 : ∀ x ∈ p1, x.block < W.heap.size := by obtain ⟨m, hm⟩ := h1; exact DataW.trod_lt m _ _ _ hm
  obtain ⟨a0, len0, cap0, rfl⟩ := okWide_slice Try.underlying22 (hval 0 22 v0 rfl rfl)
  obtain ⟨a0, n0, cap0, e0, rd0, ln0⟩ := (by obtain ⟨fu, hf⟩ := h0; simp only [Value.cells] at hf; exact rdB_of_trod hf : ∃ (a : Option Addr) (n cap : Nat), Value.slice a0 len0 cap0 = .slice a n cap ∧ RdB W a n ∧ n ≤ 9223372036854775807)
  simp only [Value.slice.injEq] at e0
  obtain ⟨rfl, rfl, rfl⟩ := e0
  obtain ⟨a1, len1, cap1, rfl⟩ := okWide_slice Try.underlying22 (hval 1 22 v1 rfl rfl)
  obtain ⟨a1, n1, cap1, e1, rd1, ln1⟩ := (by obtain ⟨fu, hf⟩ := h1; simp only [Value.cells] at hf; exact rdB_of_trod hf : ∃ (a : Option Addr) (n cap : Nat), Value.slice a1 len1 cap1 = .slice a n cap ∧ RdB W a n ∧ n ≤ 9223372036854775807)
  simp only [Value.slice.injEq] at e1
  obtain ⟨rfl, rfl, rfl⟩ := e1
  clear hA0 hval0
  refine (walk a0 len0 cap0 a1 len1 cap1 W rd0 ln0 rd1 ln1).mono fun e W' ⟨he, bel⟩ => ?_
  subst he
  exact ⟨_, rfl, _, _, _, [], _, [], hW', trodAll_mk1 (shut_bool Try.underlying4 _), (trodAll_cons_mk (Below.trod laidOut (by kernel_rfl) (of_decide_eq_true (by kernel_rfl)) h0 bel lt0) (trodAll_cons_mk (Below.trod laidOut (by kernel_rfl) (of_decide_eq_true (by kernel_rfl)) h1 bel lt1) trodAll_mk0)), rfl, bel.frame _, fun h => by cases h⟩
theorem proved : Rows.FnModifiedAscentsSaid :=
  OpenClaim.holds_of_wide 5 Try.f5 rfl rfl rfl rfl rfl rfl rfl ⟨rfl, rfl, rfl, rfl, rfl⟩ rfl rfl rfl rfl rfl (by kernel_rfl) Try.func5 (by kernel_rfl)
    (of_decide_eq_true (by kernel_rfl)) (by unfold Func.isWrapper; first | (rw [if_pos (by decide +kernel)]; kernel_rfl) | (rw [if_neg (by decide +kernel)]; exact ⟨rfl, rfl⟩))
    (fun os started H enc _ => lifted os started H enc)

end Go.Proofs.Ytdmhjmcljpladaa.modifiedAscents
