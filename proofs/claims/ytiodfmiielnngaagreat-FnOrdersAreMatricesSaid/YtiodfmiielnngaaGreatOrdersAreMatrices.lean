/- PROVED: the law FnOrdersAreMatrices returns true for every input, and each of its arguments reads afterwards as before. No conditions. -/
import Derived.Test.YtiodfmiielnngaaGreatRows
import Derived.WalkKit
import Derived.WalkSpells
import Derived.WalkLawsBesides
import Derived.Deep.QuietTactic
import Derived.BigQuiet
import Derived.ProofKit
import Derived.OpenShut
import Derived.ShutString
import Derived.ChangeOld
import Derived.Below
import Derived.Lib.SmallJoins
import Derived.Lib.Hide
import Derived.Shelf.Small.Bits
import Derived.Shelf.Small.Wraps
import Derived.Shelf.Strconv.Itoa0
import Derived.Shelf.Sort.Plain
import Derived.Shelf.Slices.Reverse
import Derived.Shelf.Slices.Equal
import Derived.Shelf.Slices.CompactI
import Derived.Shelf.Slices.SearchI
import Derived.Shelf.Slices.Delete
import Derived.Shelf.Slices.Cells
import Derived.Shelf.Slices.In.SortNone
import Derived.Shelf.Slices.Empties
import Derived.Shelf.Slices.Empties2
import Derived.Shelf.SlicesE.Reverse
import Derived.Shelf.SlicesE.Delete
import Derived.Sort.OwnSortedInts
import Derived.Lib.SliceRun
import Derived.Deep.RegionLaw
import Derived.Maps.AppendAt
import Derived.Deep.AppendLies
import Derived.Deep.RegionHeld3
import Derived.Lib.SlicesCompact
import Derived.Lib.RowBridge
import Derived.Test.YtiodfmiielnngaaGreatOrdersAreMatricesP3
namespace Go.Proofs.YtiodfmiielnngaaGreat.ordersAreMatrices
open Go Go.RowKit
set_option linter.unusedVariables false
set_option linter.unusedSimpArgs false
set_option maxHeartbeats 400000
open Go.Shelf
set_option maxRecDepth 100000 in
set_option maxHeartbeats 1000000 in
theorem sMxO_any (a : Option Addr) (xss : List (List Int)) (cap : Nat) (w : World) (hx : RdC w a xss) (hs : xss.length + totS xss xss.length ≤ 1048576) :
    Calls Tryz.prog 22 #[.agg #[.slice a xss.length cap]] w (GotO w (omN xss) (omL xss) (omB xss)) := by
  have hlen := hx.rd.len
  have hV := Var2.new (w.alloc (.cells #[.slice a xss.length cap] 45)) (.int .i64 0) (.slice none 0 0) 31
  have hb0 : Below w.heap.size w ((w.alloc (.cells #[.slice a xss.length cap] 45)).alloc (.cells #[.int .i64 0, .slice none 0 0] 31)) := (by repeat (first | exact Below.refl _ _ | assumption | refine Below.alloc ?_ (by first | exact Nat.le_refl _ | (simp only [World.size_alloc, World.size_setCell, World.size_drew]; omega) | omega) _ | refine Below.setCell ?_ (by first | exact Nat.le_refl _ | (simp only [World.size_alloc, World.size_setCell, World.size_drew]; omega) | omega) _ | refine Below.drew ?_))
  have hA : Box1 ((w.alloc (.cells #[.slice a xss.length cap] 45)).alloc (.cells #[.int .i64 0, .slice none 0 0] 31)) w.heap.size (.slice a xss.length cap) := (Box1.new w _ _).below ((Below.refl _ _).alloc (Nat.le_refl _) _)
  rw [World.size_alloc] at hV
  cases hm : mxB xss
  · have HM := Lib.hid hm
    have H1 : Hid (omB xss = false) := by simp [Hid, omB, hm]
    have H2 : Hid (omN xss = 0) := by rw [Hid, omN, H1.out]; rfl
    have H3 : Hid (omL xss = []) := by rw [Hid, omL, H1.out]; rfl
    clear hm
    go_enter Tryz.func22, Tryz.ntmps22
    go_wp2_with fail
    refine (maGood_any _ _ _ _ (hx.rd.below hb0)).mono ?_
    rintro e w1 ⟨rfl, hb⟩
    rw [HM.out]
    have b1 : Below w.heap.size w w1 := hb0.trans (hb.mono (by simp; omega))
    have hV1 := hV.below hb
    have ⟨⟨zV, cV, dV⟩, fV, gV⟩ := hV1
    clear hb hV
    go_wp2_with fail
    have hV2 := hV1.set (.int .i64 0) (.slice none 0 0)
    refine bodyPost_ret (v := .tuple #[.agg #[.int .i64 0, .slice none 0 0], .bool false]) (by have ⟨⟨_, q1, q2⟩, _, _⟩ := hV2; simp [results, Tryz.results22, go_sem, q1, q2]) rfl ?_
    exact got_no H2.out H3.out H1.out ((b1.setCell (p := ⟨w.heap.size + 1, 0, none⟩) (by simp) _).setCell (p := ⟨w.heap.size + 1, 1, none⟩) (by simp) _)
  · have HM := Lib.hid hm
    have h12 := mxB_small hm
    have HX := Lib.hid hx
    have HSU := Lib.hid (fun W (h : RdS W a xss) => maSum_any a xss cap W h h12 (fun k hk => mxB_len hm hk) (fun k hk j hj => mxB_num hm hk (by rw [mxB_len hm hk] at hj; exact hj)))
    by_cases h10 : matS xss xss.length ≤ 10
    · have HNUM : Hid (∀ i j, i < xss.length → j < xss.length → 0 ≤ atM xss i j ∧ atM xss i j ≤ 12) := fun i j hi hj => mxB_num hm hi hj
      have HL : Hid (∀ k, k < xss.length → (rowL xss k).length = xss.length) := fun k hk => mxB_len hm hk
      have H1 : Hid (omB xss = true) := by simp [Hid, omB, hm, h10]
      have H2 : Hid (omN xss = ((omC xss : Nat) : Int)) := by rw [Hid, omN, H1.out]; rfl
      have H3 : Hid (omL xss = ivo (allPs xss xss.length) (omC xss) (omC xss)) := by rw [Hid, omL, H1.out]; rfl
      have HLN := Lib.hid (om_len hm)
      have HC10 : Hid (omC xss ≤ 10) := by rw [Hid, omC]; omega
      have HBA : Hid (∀ k, k ≤ xss.length → (allPs xss k).length ≤ 288 * k) := fun k hk => allPs_big h12 (fun i hi q hq => mxB_num hm (by omega) hq)
      have HBR : Hid (∀ k, k < xss.length → ∀ q, q ≤ xss.length → (rowPs xss k (allPs xss k) q).length ≤ 3456) := fun k hk q hq => by
        have h1 := rowPs_big (xss := xss) (i := k) (cs := allPs xss k) (j := q) (fun i hi => mxB_num hm hk (by omega))
        have h2 := HBA.out k (by omega)
        omega
      obtain ⟨S, hS⟩ : ∃ S, S = matS xss xss.length := ⟨_, rfl⟩
      rw [← hS] at HSU h10
      clear hm hx hS
      go_enter Tryz.func22, Tryz.ntmps22
      go_wp2_with fail
      refine (maGood_any _ _ _ _ (HX.out.rd.below hb0)).mono ?_
      rintro e w1 ⟨rfl, hb⟩
      rw [HM.out]
      have b1 : Below w.heap.size w w1 := hb0.trans (hb.mono (by simp; omega))
      have hV1 := hV.below hb
      have hA1 := hA.below hb
      have ⟨zA, cA⟩ := hA1
      clear hb hV hA hb0
      go_wp2_with fail
      refine (HSU.out _ (HX.out.rd.below b1)).mono ?_
      rintro e w2 ⟨rfl, hb2⟩
      have b2 := b1.trans (hb2.mono b1.size)
      have hV2 := hV1.below hb2
      have hA2 := hA1.below hb2
      have ⟨zA2, cA2⟩ := hA2
      have hz2 : w.heap.size + 2 ≤ w2.heap.size := by have h1 := hV2.1.1; omega
      have HV2 := Lib.hid hV2
      clear hb2 hV1 hA1 cA zA hV2 hA2
      go_wp2_with fail
      go_loopw [4, 21] (fun v i wr => ∃ (k c : Nat), k ≤ xss.length ∧ i = .int .i64 k ∧ OwnV wr w2.heap.size v c (allPs xss k) ∧ Below w2.heap.size w2 wr) (fun _ i _ => xss.length - (intOf i).toNat)
      case atStart => exact ⟨0, 0, Nat.zero_le _, rfl, OwnV.nil _ _, Below.refl _ _⟩
      case round =>
        obtain ⟨k, c, hk, rfl, hown, hb⟩ := hrel
        have hbs := hb.size
        by_cases hlt : k < xss.length
        · have k1 : (k : Int) < (xss.length : Int) := by omega
          obtain ⟨b0, off0, a', cap', rfl, hbl, hcw, hr⟩ := HX.out.rd.row k hlt
          have hrl := HL.out k hlt
          rw [hrl] at hcw
          have hc := ((b2.trans (hb.mono (by omega : w.heap.size ≤ w2.heap.size))).cell (p := ⟨b0, off0 + k, none⟩) hbl).trans hcw
          have hblr : b0 < wr.heap.size := by omega
          have HR := Lib.hid hr
          have HRL := Lib.hid hrl
          have HO := Lib.hid hown
          obtain ⟨W1, hW1⟩ : ∃ x : World, x = wr := ⟨_, rfl⟩
          subst hW1
          clear hr hrl hown hcw
          go_wp2_with fail
          go_loopw [4, 28] (fun v i wq => ∃ (q c : Nat), q ≤ xss.length ∧ i = .int .i64 q ∧ OwnV wq w2.heap.size v c (rowPs xss k (allPs xss k) q) ∧ Below w2.heap.size w2 wq) (fun _ i _ => xss.length - (intOf i).toNat)
          case atStart => exact ⟨0, c, Nat.zero_le _, rfl, HO.out, hb⟩
          case round =>
            obtain ⟨q, c2, hq, rfl, hown2, hb2⟩ := hrel
            by_cases hlt2 : q < xss.length
            · have q1 : (q : Int) < (xss.length : Int) := by omega
              obtain ⟨b3, off3, rfl, hbl3, hc3⟩ := (HR.out.below (b2.trans (hb2.mono (by omega)))).cell q (by rw [HRL.out]; exact hlt2)
              have ⟨n0, n1⟩ := HNUM.out k q hlt hlt2
              obtain ⟨X, hX⟩ := Int.eq_ofNat_of_zero_le n0
              have hXX : nth (rowL xss k) q = (X : Int) := hX
              rw [hXX] at hc3
              have HRW : Hid (rowPs xss k (allPs xss k) (q+1) = addP (rowPs xss k (allPs xss k) q) k q X) := by rw [Hid, rowPs, hX]; rfl
              have hX12 : X ≤ 12 := by omega
              have hbr := HBR.out k hlt q hq
              obtain ⟨CS, hCS⟩ : ∃ CS, CS = rowPs xss k (allPs xss k) q := ⟨_, rfl⟩
              rw [← hCS] at hown2 HRW hbr
              have HO2 := Lib.hid hown2
              obtain ⟨W3, hW3⟩ : ∃ x : World, x = wr := ⟨_, rfl⟩
              subst hW3
              clear hX hXX n0 n1 hCS hown2
              go_wp2_with fail
              go_loopw [4, 8] (fun v i wp => ∃ (t c : Nat), t ≤ X ∧ i = .int .i64 ((X - t : Nat) : Int) ∧ OwnV wp w2.heap.size v c (addP CS k q t) ∧ Below w2.heap.size w2 wp) (fun _ i _ => (intOf i).toNat)
              case atStart => exact ⟨0, c2, Nat.zero_le _, rfl, HO2.out, hb2⟩
              case round =>
                obtain ⟨t, c4, ht, rfl, hown4, hb4⟩ := hrel
                have hb4s := hb4.size
                by_cases hlt4 : t < X
                · have x1 : (0 : Int) < ((X - t : Nat) : Int) := by omega
                  have hal := addP_big (cs := CS) (i := k) (j := q) (t := t) hbr (by omega)
                  have hl4 := hown4.len
                  have hc4 : c4 ≤ 1048576 := by omega
                  have HO4 := Lib.hid hown4
                  clear hown4 hl4
                  go_wp2_with (at_builtin; refine push_iv rfl _ _ rfl rfl rfl HO4.out rfl hc4 (by omega) ?_)
                  intro v5 w5 o5 hg5 _
                  have hU := HO4.out.lt
                  have b5 := hb4.trans (below_of_grown hg5 (fun c e => by have := (hU c e).1; omega) hb4s)
                  clear hg5 hU
                  go_wp2_with fail
                  go_roundw
                  case rel => exact ⟨t + 1, c4 + 1, by omega, by first | go_num | exact val_int (by omega), o5, b5⟩
                  case measure => simp [intOf]; omega
                · obtain rfl : t = X := by omega
                  have HE : Hid (addP CS k q t = rowPs xss k (allPs xss k) (q+1)) := HRW.out.symm
                  rw [HE.out] at hown4
                  have x1 : ¬ (0 : Int) < ((t - t : Nat) : Int) := by omega
                  go_wp2_with fail
                  go_roundw
                  case rel => exact ⟨q + 1, c4, by omega, by go_num, hown4, hb4⟩
                  case measure => simp [intOf]; omega
            · obtain rfl : q = xss.length := by omega
              go_wp2_with fail
              go_roundw
              case rel => exact ⟨k + 1, c2, by omega, by go_num, hown2, hb2⟩
              case measure => simp [intOf]; omega
        · obtain rfl : k = xss.length := by omega
          have hl := hown.len
          rw [HLN.out] at hl
          obtain rfl : c = omC xss := by omega
          obtain ⟨av, cv, ev⟩ := hown.form
          subst ev
          have hrv := hown.rd (by have := HC10.out; omega)
          have HOV := Lib.hid (ivOrder_any av (allPs xss xss.length) (omC xss) cv wr hrv HLN.out HC10.out)
          have HV3 := Lib.hid (HV2.out.below hb)
          have bw := b2.trans (hb.mono (by omega))
          obtain ⟨C, hC⟩ : ∃ C, C = omC xss := ⟨_, rfl⟩
          rw [← hC] at HOV H2 H3 ⊢
          clear hown hrv hl hC
          go_wp2_with fail
          refine HOV.out.mono ?_
          rintro e w6 ⟨a6, c6, rfl, ho6, hb6⟩
          have hV6 := HV3.out.below hb6
          have bw6 := bw.trans (hb6.mono bw.size)
          have ⟨⟨zR, cR, dR⟩, fR, gR⟩ := hV6
          have HO6 := Lib.hid ho6
          have hwr : w.heap.size + 2 ≤ wr.heap.size := by omega
          clear hb6 ho6
          go_wp2_with fail
          have R5 := hV6.set (.int .i64 (C : Int)) (.slice a6 C c6)
          refine bodyPost_ret (v := .tuple #[.agg #[.int .i64 (C : Int), .slice a6 C c6], .bool true]) (by have ⟨⟨_, q1, q2⟩, _, _⟩ := R5; simp [results, Tryz.results22, go_sem, q1, q2]) rfl ?_
          refine ⟨a6, c6, by rw [H1.out, H2.out, H3.out, ivo_len], ?_, ?_⟩
          · rw [H3.out, ivo_len]
            exact ((HO6.out.setBelow (p := ⟨w.heap.size + 1, 0, none⟩) (by show w.heap.size + 1 < wr.heap.size; omega) _).setBelow (p := ⟨w.heap.size + 1, 1, none⟩) (by show w.heap.size + 1 < wr.heap.size; omega) _).mono (by omega)
          · exact (bw6.setCell (p := ⟨w.heap.size + 1, 0, none⟩) (by simp) _).setCell (p := ⟨w.heap.size + 1, 1, none⟩) (by simp) _
    · have H1 : Hid (omB xss = false) := by simp [Hid, omB, h10]
      have H2 : Hid (omN xss = 0) := by rw [Hid, omN, H1.out]; rfl
      have H3 : Hid (omL xss = []) := by rw [Hid, omL, H1.out]; rfl
      obtain ⟨S, hS⟩ : ∃ S, S = matS xss xss.length := ⟨_, rfl⟩
      rw [← hS] at HSU h10
      have h11 : 10 < S := by omega
      clear hm hx hS
      go_enter Tryz.func22, Tryz.ntmps22
      go_wp2_with fail
      refine (maGood_any _ _ _ _ (HX.out.rd.below hb0)).mono ?_
      rintro e w1 ⟨rfl, hb⟩
      rw [HM.out]
      have b1 : Below w.heap.size w w1 := hb0.trans (hb.mono (by simp; omega))
      have hV1 := hV.below hb
      have ⟨zA, cA⟩ := hA.below hb
      clear hb hV
      go_wp2_with fail
      refine (HSU.out _ (HX.out.rd.below b1)).mono ?_
      rintro e w2 ⟨rfl, hb2⟩
      have b2 := b1.trans (hb2.mono b1.size)
      have hV2 := hV1.below hb2
      have ⟨⟨zV, cV, dV⟩, fV, gV⟩ := hV2
      clear hb2 hV1
      go_wp2_with fail
      have hV3 := hV2.set (.int .i64 0) (.slice none 0 0)
      refine bodyPost_ret (v := .tuple #[.agg #[.int .i64 0, .slice none 0 0], .bool false]) (by have ⟨⟨_, q1, q2⟩, _, _⟩ := hV3; simp [results, Tryz.results22, go_sem, q1, q2]) rfl ?_
      exact got_no H2.out H3.out H1.out ((b2.setCell (p := ⟨w.heap.size + 1, 0, none⟩) (by simp) _).setCell (p := ⟨w.heap.size + 1, 1, none⟩) (by simp) _)

def Sh_lays189_ren : Go.Shelf.Ren := ⟨fun | 189 => 76 | 125 => 104 | 257 => 103 | 128 => 129 | 129 => 130 | 294 => 120 | 295 => 121 | 296 => 122 | 297 => 123 | 298 => 124 | 299 => 125 | 216 => 126 | 300 => 127 | 301 => 128 | 328 => 141 | 329 => 142 | 330 => 143 | 331 => 144 | 332 => 145 | 215 => 146 | 343 => 150 | n => n, fun | 28 => 24 | 3 => 3 | 46 => 118 | 0 => 0 | 51 => 135 | 53 => 57 | 4 => 4 | 183 => 140 | 182 => 139 | 131 => 36 | 5 => 5 | 9 => 9 | 218 => 149 | 222 => 153 | 228 => 157 | 229 => 158 | n => n, fun | n => n⟩
theorem Sh_lays189 : Go.Proofs.Lays.n189 Tryz.prog Sh_lays189_ren := {
  mixed := by kernel_rfl
  f125 := Tryz.func104.trans (congrArg some (by kernel_rfl))
  f128 := Tryz.func129.trans (congrArg some (by kernel_rfl))
  f129 := Tryz.func130.trans (congrArg some (by kernel_rfl))
  f189 := Tryz.func76.trans (congrArg some (by kernel_rfl))
  f215 := Tryz.func146.trans (congrArg some (by kernel_rfl))
  f216 := Tryz.func126.trans (congrArg some (by kernel_rfl))
  f257 := Tryz.func103.trans (congrArg some (by kernel_rfl))
  f294 := Tryz.func120.trans (congrArg some (by kernel_rfl))
  f295 := Tryz.func121.trans (congrArg some (by kernel_rfl))
  f296 := Tryz.func122.trans (congrArg some (by kernel_rfl))
  f297 := Tryz.func123.trans (congrArg some (by kernel_rfl))
  f298 := Tryz.func124.trans (congrArg some (by kernel_rfl))
  f299 := Tryz.func125.trans (congrArg some (by kernel_rfl))
  f300 := Tryz.func127.trans (congrArg some (by kernel_rfl))
  f301 := Tryz.func128.trans (congrArg some (by kernel_rfl))
  f328 := Tryz.func141.trans (congrArg some (by kernel_rfl))
  f329 := Tryz.func142.trans (congrArg some (by kernel_rfl))
  f330 := Tryz.func143.trans (congrArg some (by kernel_rfl))
  f331 := Tryz.func144.trans (congrArg some (by kernel_rfl))
  f332 := Tryz.func145.trans (congrArg some (by kernel_rfl))
  f343 := Tryz.func150.trans (congrArg some (by kernel_rfl))
  t0 := Tryz.underlying0
  a0 := Tryz.isAgg0
  z0 := Tryz.sizeOf0
  v0 := Tryz.zeroValue0
  t3 := Tryz.underlying3
  a3 := Tryz.isAgg3
  z3 := Tryz.sizeOf3
  v3 := Tryz.zeroValue3
  t4 := Tryz.underlying4
  a4 := Tryz.isAgg4
  z4 := Tryz.sizeOf4
  v4 := Tryz.zeroValue4
  t5 := Tryz.underlying5
  a5 := Tryz.isAgg5
  z5 := Tryz.sizeOf5
  v5 := Tryz.zeroValue5
  t9 := Tryz.underlying9
  a9 := Tryz.isAgg9
  z9 := Tryz.sizeOf9
  v9 := Tryz.zeroValue9
  t28 := Tryz.underlying24
  a28 := Tryz.isAgg24
  z28 := Tryz.sizeOf24
  v28 := Tryz.zeroValue24
  t46 := Tryz.underlying118
  a46 := Tryz.isAgg118
  z46 := Tryz.sizeOf118
  v46 := Tryz.zeroValue118
  t51 := Tryz.underlying135
  a51 := Tryz.isAgg135
  z51 := Tryz.sizeOf135
  v51 := Tryz.zeroValue135
  t53 := Tryz.underlying57
  a53 := Tryz.isAgg57
  z53 := Tryz.sizeOf57
  v53 := Tryz.zeroValue57
  t131 := Tryz.underlying36
  a131 := Tryz.isAgg36
  z131 := Tryz.sizeOf36
  v131 := Tryz.zeroValue36
  t182 := Tryz.underlying139
  a182 := Tryz.isAgg139
  z182 := Tryz.sizeOf139
  v182 := Tryz.zeroValue139
  t183 := Tryz.underlying140
  a183 := Tryz.isAgg140
  z183 := Tryz.sizeOf140
  v183 := Tryz.zeroValue140
  t218 := Tryz.underlying149
  a218 := Tryz.isAgg149
  z218 := Tryz.sizeOf149
  v218 := Tryz.zeroValue149
  t222 := Tryz.underlying153
  a222 := Tryz.isAgg153
  z222 := Tryz.sizeOf153
  v222 := Tryz.zeroValue153
  t228 := Tryz.underlying157
  a228 := Tryz.isAgg157
  z228 := Tryz.sizeOf157
  v228 := Tryz.zeroValue157
  t229 := Tryz.underlying158
  a229 := Tryz.isAgg158
  z229 := Tryz.sizeOf158
  v229 := Tryz.zeroValue158 }

open Go.Sort Go.RowKit in
theorem Sh_slices_Sort_int (blk off cap : Nat) (zs : List Int) (w : World) (hH : Holds (Value.int .i64) w blk off zs.toArray) (hblk : blk < w.heap.size) (hsz : zs.length < 4611686018427387904) :
    Calls Tryz.prog 76 #[.slice (some ⟨blk, off, none⟩) zs.length cap] w fun e w' =>
      e = .returned (.tuple #[]) ∧ ∃ n os, w' = grow (putRow (Value.int .i64) (Sort.ahead w n) blk off (zs.mergeSort fun x y => decide (x ≤ y)).toArray) os := Any.slices_Sort_int Sh_lays189 blk off cap zs w hH hblk hsz

open Go.RowKit Go.Sort in
theorem Sh_slices_Sort_int_none (p : Option Addr) (cap : Nat) (w : World) :
    Calls Tryz.prog 76 #[.slice p 0 cap] w fun e w' => e = .returned (.tuple #[]) ∧ w' = w := Any.slices_Sort_int_none Sh_lays189 p cap w

theorem sortOwn (a : Option Addr) (cap : Nat) (xs : List Int) (B : Nat) (w : World) (hl : xs.length ≤ 1048576) (ho : OwnI w B (.slice a xs.length cap) xs) :
    Calls Tryz.prog 76 #[.slice a xs.length cap] w fun e w' => e = .returned (.tuple #[]) ∧ OwnI w' B (.slice a (srt xs).length cap) (srt xs) ∧ w.grownBy w' (Value.slice a xs.length cap).ownBlock := by
  rcases ho.2 with ⟨e0, h0⟩ | ⟨g, cap', cur, e0, hbase, hb, h1, h2, h3, h4⟩
  · have hx : xs = [] := List.length_eq_zero_iff.1 h0
    subst hx
    refine (Sh_slices_Sort_int_none a cap w).mono ?_
    rintro e w' ⟨rfl, rfl⟩
    exact ⟨rfl, by rw [show srt [] = [] from by simp [srt]]; exact ho, World.grownBy.refl _ _⟩
  · simp only [Value.slice.injEq] at e0
    obtain ⟨rfl, -, rfl⟩ := e0
    have hh := Go.holds_of_blockI (ss := xs) hb (by simpa using h4)
    refine (Sh_slices_Sort_int g 0 cap xs w hh ((Array.getElem?_eq_some_iff.1 hb).1) (by omega)).mono ?_
    rintro e w' ⟨rfl, nn, os, rfl⟩
    refine ⟨rfl, ?_, Go.grownBy_sortedI _⟩
    have := Go.ownsRow_sortedI (n := nn) (os := os) (ss := xs) (ts := srt xs) (srt_len xs) hbase hb h1 h2 h3
    unfold OwnI
    rw [srt_len]
    exact this

def Sh_laysNm220_ren : Go.Shelf.Ren := ⟨fun | 20 => 77 | n => n, fun | 22 => 24 | 3 => 3 | 4 => 4 | 0 => 0 | n => n, fun | n => n⟩
theorem Sh_laysNm220 : Go.Proofs.Lays2.n20 Tryz.prog Sh_laysNm220_ren := {
  mixed := by kernel_rfl
  f20 := Tryz.func77.trans (congrArg some (by kernel_rfl))
  t0 := Tryz.underlying0
  a0 := Tryz.isAgg0
  z0 := Tryz.sizeOf0
  v0 := Tryz.zeroValue0
  t3 := Tryz.underlying3
  a3 := Tryz.isAgg3
  z3 := Tryz.sizeOf3
  v3 := Tryz.zeroValue3
  t4 := Tryz.underlying4
  a4 := Tryz.isAgg4
  z4 := Tryz.sizeOf4
  v4 := Tryz.zeroValue4
  t22 := Tryz.underlying24
  a22 := Tryz.isAgg24
  z22 := Tryz.sizeOf24
  v22 := Tryz.zeroValue24
  i3 := by kernel_rfl }

open Go.RowKit Go.Lib Go.Sort in
theorem Sh_slices_Compact_int (blk off cap : Nat) (zs : List Int) (w : World) (hH : Holds (Value.int .i64) w blk off zs.toArray) (hsz : zs.length ≤ 9223372036854775807) (hcap : zs.length ≤ cap) :
    Calls Tryz.prog 77 #[.slice (some ⟨blk, off, none⟩) zs.length cap] w fun e w' => e = .returned (.slice (some ⟨blk, off, none⟩) (Lib.compact zs).length cap) ∧ ∃ q, w' = putRow (Value.int .i64) (Sort.ahead w q) blk off (Lib.compact zs ++ List.replicate (zs.length - (Lib.compact zs).length) 0).toArray := Any.slices_Compact_int Sh_laysNm220 blk off cap zs w hH hsz hcap

open Go.RowKit Go.Lib Go.Sort in
theorem Sh_slices_Compact_int_empty (a : Option Addr) (cap : Nat) (w : World) :
    Calls Tryz.prog 77 #[.slice a 0 cap] w fun e w' => e = .returned (.slice a 0 cap) ∧ w' = w := Any.slices_Compact_int_empty Sh_laysNm220 a cap w

theorem compactOwn (a : Option Addr) (cap : Nat) (xs : List Int) (B : Nat) (w : World) (ho : OwnI w B (.slice a xs.length cap) xs) :
    Calls Tryz.prog 77 #[.slice a xs.length cap] w fun e w' => e = .returned (.slice a (Go.Lib.compact xs).length cap) ∧ OwnI w' B (.slice a (Go.Lib.compact xs).length cap) (Go.Lib.compact xs) ∧ w.grownBy w' (Value.slice a xs.length cap).ownBlock := by
  rcases ho.2 with ⟨e0, h0⟩ | ⟨g, cap', cur, e0, hbase, hb, h1, h2, h3, h4⟩
  · have hx : xs = [] := List.length_eq_zero_iff.1 h0
    subst hx
    refine (Sh_slices_Compact_int_empty a cap w).mono ?_
    rintro e w' ⟨rfl, rfl⟩
    exact ⟨rfl, ho, World.grownBy.refl _ _⟩
  · simp only [Value.slice.injEq] at e0
    obtain ⟨rfl, -, rfl⟩ := e0
    have hh := Go.holds_of_blockI (ss := xs) hb (by simpa using h4)
    have hcl := Go.Lib.compact_length_le xs
    refine (Sh_slices_Compact_int g 0 cap xs w hh (by unfold maxLen at h2; omega) h1).mono ?_
    rintro e w' ⟨rfl, nn, rfl⟩
    have hg := Go.grownBy_sortedI (w := w) (g := g) (n := nn) (os := #[]) (Go.Lib.compact xs ++ List.replicate (xs.length - (Go.Lib.compact xs).length) 0).toArray
    have ho := Go.ownsRow_sortedI (n := nn) (os := #[]) (ss := xs) (ts := Go.Lib.compact xs ++ List.replicate (xs.length - (Go.Lib.compact xs).length) 0) (by rw [List.length_append, List.length_replicate]; omega) hbase hb h1 h2 h3
    rw [Go.Sort.grow_empty] at hg ho
    refine ⟨rfl, ?_, hg⟩
    have hc := ownsRow_cut ho hcl
    have e1 : (List.map (Value.int .i64) (Go.Lib.compact xs ++ List.replicate (xs.length - (Go.Lib.compact xs).length) 0)).take (Go.Lib.compact xs).length = (Go.Lib.compact xs).map (Value.int .i64) := by
      rw [← List.map_take, List.take_left']
      rfl
    rw [e1] at hc
    exact hc

theorem bang (l : List Int) {j : Nat} (h : j < l.length) : l.toArray[j]! = nth l j := by
  rw [getElem!_pos l.toArray j (by simpa using h), nth_get l j h]; simp
theorem cu_inc {l : List Int} (h : l.Pairwise (· ≤ ·)) : ∀ m, m ≤ l.length → Inc (Go.Lib.compactUpTo l.toArray m) ∧ (∀ x, x ∈ Go.Lib.compactUpTo l.toArray m ↔ ∃ j, j < m ∧ nth l j = x)
  | 0, _ => ⟨List.Pairwise.nil, fun x => by simp [Go.Lib.compactUpTo]⟩
  | m+1, hm => by
    obtain ⟨h1, h2⟩ := cu_inc h m (by omega)
    have hle : ∀ i j, i ≤ j → j < l.length → nth l i ≤ nth l j := fun i j hij hj => by
      rw [nth_get _ _ (by omega), nth_get _ _ hj]
      rcases Nat.lt_or_eq_of_le hij with h3 | rfl
      · exact (List.pairwise_iff_getElem.1 h) i j (by omega) hj h3
      · exact Int.le_refl _
    rw [Go.Lib.compactUpTo_succ, bang l (by omega)]
    cases hk : Go.Lib.keeps l.toArray m
    · rw [if_neg (by simp), List.append_nil]
      refine ⟨h1, fun x => ?_⟩
      rw [h2]
      constructor
      · rintro ⟨j, hj, e⟩
        exact ⟨j, by omega, e⟩
      · rintro ⟨j, hj, e⟩
        by_cases e2 : j = m
        · subst e2
          simp only [Go.Lib.keeps, decide_eq_false_iff_not, not_or, ne_eq, Classical.not_not] at hk
          rw [bang l (by omega), bang l (by omega)] at hk
          exact ⟨j - 1, by omega, by rw [← hk.2]; exact e⟩
        · exact ⟨j, by omega, e⟩
    · rw [if_pos rfl]
      constructor
      · unfold Inc
        rw [List.pairwise_append]
        refine ⟨h1, List.pairwise_singleton _ _, fun a ha b hb => ?_⟩
        rw [List.mem_singleton] at hb
        subst hb
        obtain ⟨j, hj, rfl⟩ := (h2 a).1 ha
        simp only [Go.Lib.keeps, decide_eq_true_eq] at hk
        rw [bang l (by omega), bang l (by omega)] at hk
        have hne : nth l m ≠ nth l (m - 1) := hk.resolve_left (by omega)
        have := hle j (m - 1) (by omega) (by omega)
        have := hle (m - 1) m (by omega) (by omega)
        omega
      · intro x
        rw [List.mem_append, h2, List.mem_singleton]
        constructor
        · rintro (⟨j, hj, e⟩ | e)
          · exact ⟨j, by omega, e⟩
          · exact ⟨m, by omega, e.symm⟩
        · rintro ⟨j, hj, e⟩
          by_cases e2 : j = m
          · subst e2; exact .inr e.symm
          · exact .inl ⟨j, by omega, e⟩
theorem compact_inc {l : List Int} (h : l.Pairwise (· ≤ ·)) : Inc (Go.Lib.compact l) := (cu_inc h l.length (Nat.le_refl _)).1
theorem compact_mem {l : List Int} (h : l.Pairwise (· ≤ ·)) (x : Int) : x ∈ Go.Lib.compact l ↔ x ∈ l := by
  have := (cu_inc h l.length (Nat.le_refl _)).2 x
  rw [Go.Lib.compact, this]
  constructor
  · rintro ⟨j, hj, rfl⟩
    rw [nth_get _ _ hj]; exact List.getElem_mem _
  · intro hx
    obtain ⟨j, hj, rfl⟩ := List.getElem_of_mem hx
    exact ⟨j, hj, nth_get _ _ hj⟩

theorem belowSet_any (n : Int) (a : Option Addr) (xs : List Int) (cap : Nat) (i : Int) (w : World) (hx : Rd w a xs) (hr : RelP n xs) (hi : 0 ≤ i) :
    Calls Tryz.prog 47 #[.agg #[.int .i64 n, .slice a xs.length cap], .int .i64 i] w fun e w' => e = .returned (.int .i64 (belowTo xs i xs.length)) ∧ Below w.heap.size w w' := by
  have hx1 := hx.alloc (.cells #[.int .i64 n, .slice a xs.length cap] 31)
  have hn : xs.length ≤ 10 := by have := hr.len; have := hr.n1; omega
  go_enter Tryz.func47, Tryz.ntmps47
  go_wp2_with fail
  go_loop [5, 11] (fun s i' => ∃ k : Nat, k ≤ xs.length ∧ i' = .int .i64 k ∧ s = .int .i64 (belowTo xs i k)) (fun _ i => xs.length - (intOf i).toNat)
  case atStart => exact ⟨0, Nat.zero_le _, rfl, rfl⟩
  case round =>
    obtain ⟨k, hk, rfl, rfl⟩ := hrel
    by_cases hlt : k < xs.length
    · obtain ⟨b, off, rfl, hbl, hc⟩ := hx1.cell k hlt
      obtain ⟨b', off', e', hbl', hc'⟩ := hx.cell k hlt
      simp only [Option.some.injEq, Addr.mk.injEq, and_true] at e'
      obtain ⟨rfl, rfl⟩ := e'
      have hpk := hr.pos k hlt
      have hsk : nth xs k ≤ 9223372036854775807 := by have := hr.small k hlt; omega
      have hbs := belowTo_small xs i (k := k) (by omega)
      have hor := Lib.hid (or_bit (b := belowTo xs i k) (k := k) (by omega) (by omega))
      clear hbs
      cases hin : hasB (nth xs k) i
      · go_wp2_with (go_at_call 41; refine (hasElement_any _ _ _ hpk hsk hi).mono ?_; rintro e w' ⟨rfl, rfl⟩)
        go_round
        case rel => exact ⟨k + 1, by omega, by go_num, by simp [belowTo, hin]⟩
        case measure => simp [intOf]; omega
      · go_wp2_with (go_at_call 41; refine (hasElement_any _ _ _ hpk hsk hi).mono ?_; rintro e w' ⟨rfl, rfl⟩)
        go_round
        case rel => exact ⟨k + 1, by omega, by go_num, val_int (by rw [hor.out]; simp [belowTo, hin])⟩
        case measure => simp [intOf]; omega
    · obtain rfl : k = xs.length := by omega
      go_wp2_with fail
      go_ret
      exact ⟨rfl, (by repeat (first | exact Below.refl _ _ | assumption | refine Below.alloc ?_ (by first | exact Nat.le_refl _ | (simp only [World.size_alloc, World.size_setCell, World.size_drew]; omega) | omega) _ | refine Below.setCell ?_ (by first | exact Nat.le_refl _ | (simp only [World.size_alloc, World.size_setCell, World.size_drew]; omega) | omega) _ | refine Below.drew ?_))⟩

theorem belowSets_any (n : Int) (a : Option Addr) (xs : List Int) (cap : Nat) (w : World) (hx : Rd w a xs) (hr : RelP n xs) :
    Calls Tryz.prog 60 #[.agg #[.int .i64 n, .slice a xs.length cap]] w fun e w' => ∃ a' cap', e = .returned (.slice a' xs.length cap') ∧ OwnI w' w.heap.size (.slice a' xs.length cap') (belows xs xs.length) ∧ Below w.heap.size w w' := by
  obtain ⟨i0, hi, hz0, hz1, hz2⟩ := info_parts infoInt
  have hn0 := hr.n0
  have hn1 := hr.n1
  obtain rfl : n = (xs.length : Int) := hr.len.symm
  have hn : xs.length ≤ 10 := by omega
  go_enter Tryz.func60, Tryz.ntmps60
  go_wp2_with (at_make; refine wpList_make_full _ rfl (.tmp 6) (.tmp 6) 24 rfl (w.heap.size + 1) 3 i0 (.int .i64 0) 1 Tryz.underlying24 hi hz0 hz1 .i64 .i64 _ _ xs.length rfl rfl rfl rfl (by rw [hz2]; omega) (by unfold maxLen; omega) (by simp) ?_; intro w1 hown hgrow)
  have hb0 : Below w.heap.size w w1 := ((Below.refl _ _).alloc (Nat.le_refl _) _).grown hgrow (by simp) (fun k h => by cases h)
  have hown0 := made_ints (fun i => ((belowTo xs i xs.length : Nat) : Int)) hown
  have B1 : Box2 w1 w.heap.size (.int .i64 (xs.length : Int)) (.slice a xs.length cap) := (Box2.new w _ _ _).kept hgrow (by simp)
  have hx1 : Rd w1 a xs := hx.below hb0
  clear hown hgrow
  simp only [World.size_alloc] at *
  have hz : w.heap.size + 1 < w1.heap.size := by
    have := (World.ownsRow.lt hown0 (w.heap.size + 1) rfl).2
    omega
  go_wp2_with fail
  go_loopw [10] (fun i wr => ∃ k : Nat, k ≤ xs.length ∧ i = .int .i64 k ∧ wr.ownsRow (w.heap.size + 1) 3 1 (.slice (some ⟨w.heap.size + 1, 0, none⟩) xs.length xs.length) xs.length ((fmap (fun i => ((belowTo xs i xs.length : Nat) : Int)) k ++ List.replicate (xs.length - k) (0:Int)).map (Value.int .i64)) ∧ Below w.heap.size w wr ∧ Box2 wr w.heap.size (.int .i64 (xs.length : Int)) (.slice a xs.length cap)) (fun i _ => xs.length - (intOf i).toNat)
  case atStart => exact ⟨0, Nat.zero_le _, rfl, hown0, hb0, B1⟩
  case round =>
    obtain ⟨k, hk, rfl, hown, hb, hB⟩ := hrel
    have ⟨zr, cr, dr⟩ := hB
    by_cases hlt : k < xs.length
    · go_wp2_with fail
      refine (belowSet_any _ _ _ _ _ _ (hx.below hb) hr (by omega)).mono ?_
      rintro e w2 ⟨rfl, hb2⟩
      have hown2 : w2.ownsRow (w.heap.size + 1) 3 1 (.slice (some ⟨w.heap.size + 1, 0, none⟩) xs.length xs.length) xs.length _ := World.ownsRow.kept hown (below_grown hb2 (Nat.le_refl _) none) (.inr (by simp [Value.ownBlock]))
      have hst := World.ownsRow.stored hown2 k (.int .i64 ((belowTo xs k xs.length : Nat) : Int))
      rw [fill_step (fun i => ((belowTo xs i xs.length : Nat) : Int)) xs.length k hlt] at hst
      have hcc := World.ownsRow.cellAt hown2 k (by omega)
      have hfr := World.ownsRow.frozenAt hown2 k
      have hcc' : ∃ u, w2.cell? ⟨w.heap.size + 1, k, none⟩ = some u := by
        rw [hcc]
        exact ⟨_, List.getElem?_eq_getElem (by simp [fmap_len]; omega)⟩
      obtain ⟨u, hu⟩ := hcc'
      have hB2 := hB.below hb2
      have hB3 := hB2.kept hst.2 (by simp)
      have hbw := hb.trans (hb2.mono hb.size)
      have Hst := Lib.hid hst
      clear hst hcc hown hown2 hb2
      go_wp2_with fail
      go_roundw
      case rel => exact ⟨k + 1, by omega, by go_num, Hst.out.1, hbw.setCell (by simp) _, hB3⟩
      case measure => simp [intOf]; omega
    · obtain rfl : k = xs.length := by omega
      go_wp2_with fail
      go_ret
      rw [fill_end] at hown
      refine ⟨_, _, rfl, OwnI.mono (B := w.heap.size + 1) ?_ (by omega), hb⟩
      show World.ownsRow _ _ _ _ _ _ _
      rw [belows_len]
      exact hown

theorem sets_eq (xs : List Int) : Go.Lib.compact (srt (belows xs xs.length)) = sets xs := by
  refine inc_ext (compact_inc (srt_le _)) (setsTo_inc xs _) (fun x => ?_)
  rw [compact_mem (srt_le _), srt_mem, sets, setsTo_mem]
  simp only [belows, fmap, List.mem_map, List.mem_range]
  constructor
  · rintro ⟨j, hj, e⟩
    exact ⟨j, hj, e.symm⟩
  · rintro ⟨j, hj, e⟩
    exact ⟨j, hj, e.symm⟩
theorem lowerSets_any (n : Int) (a : Option Addr) (xs : List Int) (cap : Nat) (w : World) (hx : Rd w a xs) (hr : RelP n xs) :
    Calls Tryz.prog 43 #[.agg #[.int .i64 n, .slice a xs.length cap]] w fun e w' => ∃ a' cap', e = .returned (.slice a' (sets xs).length cap') ∧ OwnI w' w.heap.size (.slice a' (sets xs).length cap') (sets xs) ∧ Below w.heap.size w w' := by
  have hx1 := hx.alloc (.cells #[.int .i64 n, .slice a xs.length cap] 31)
  have HE := Lib.hid (sets_eq xs)
  go_enter Tryz.func43, Tryz.ntmps43
  go_wp2_with fail
  refine (belowSets_any _ _ _ _ _ hx1 hr).mono ?_
  rintro e w1 ⟨a1, cap1, rfl, ho1, hb1⟩
  have bw1 : Below w.heap.size w w1 := Below.trans (by repeat (first | exact Below.refl _ _ | assumption | refine Below.alloc ?_ (by first | exact Nat.le_refl _ | (simp only [World.size_alloc, World.size_setCell, World.size_drew]; omega) | omega) _ | refine Below.setCell ?_ (by first | exact Nat.le_refl _ | (simp only [World.size_alloc, World.size_setCell, World.size_drew]; omega) | omega) _ | refine Below.drew ?_)) (hb1.mono (by first | (simp only [World.size_alloc, World.size_setCell, World.size_drew]; omega) | omega))
  have o1 : OwnI w1 w.heap.size (.slice a1 (belows xs xs.length).length cap1) (belows xs xs.length) := by
    rw [belows_len]; exact ho1.mono (by simp)
  clear hb1 ho1
  go_wp2_with fail
  have hs := sortOwn a1 cap1 (belows xs xs.length) w.heap.size w1 (by rw [belows_len]; have := hr.len; have := hr.n1; omega) o1
  rw [belows_len] at hs
  refine hs.mono ?_
  rintro e w2 ⟨rfl, ho2, hg2⟩
  clear hs
  have hU := o1.lt
  rw [belows_len] at hU
  have bw2 := bw1.trans (below_of_grown hg2 (fun b e => (hU b e).1) bw1.size)
  have hsl : (srt (belows xs xs.length)).length = xs.length := by rw [srt_len, belows_len]
  have HSL := Lib.hid hsl
  clear hg2 hU o1 hsl
  go_wp2_with fail
  have hc := compactOwn a1 cap1 (srt (belows xs xs.length)) w.heap.size w2 ho2
  rw [HSL.out, HE.out] at hc
  refine hc.mono ?_
  rintro e w3 ⟨rfl, ho3, hg3⟩
  clear hc
  have hU := ho2.lt
  rw [HSL.out] at hU
  have bw3 := bw2.trans (below_of_grown hg3 (fun b e => (hU b e).1) bw2.size)
  clear hg3 hU ho2
  go_wp2_with fail
  go_ret
  exact ⟨a1, cap1, rfl, ho3, bw3⟩

theorem setsTo_L (xs : List Int) (k : Nat) : putL (setsTo xs k) ((belowTo xs (k : Int) xs.length : Nat) : Int) = setsTo xs (k+1) := rfl
theorem lessB_ne {s own : Int} (h : (s != own) = false) : lessB s own = false := by simp [lessB, h]
theorem lessB_val {s own : Int} (h : (s != own) = true) : lessB s own = (sub s.toNat own.toNat == 0) := by simp [lessB, h]
theorem lessB_sub {s : Int} {o : Nat} (h0 : 0 ≤ s) (h1 : s < 1024) (h2 : o < 1024) (h : (s != (o : Int)) = true) : (bits .andNot .i64 s (o : Int) == 0) = lessB s (o : Int) := by
  rw [lessB_val h, sub_i h0 (by omega) (by omega) (by omega), Int.toNat_natCast, Bool.eq_iff_iff, beq_iff_eq, beq_iff_eq]
  omega

theorem iLevels_any (n : Int) (a : Option Addr) (xs : List Int) (cap : Nat) (w : World) (hn : -9223372036854775808 ≤ n ∧ n ≤ 9223372036854775807) (hx : Rd w a xs) :
    Calls Tryz.prog 40 #[.agg #[.int .i64 n, .slice a xs.length cap]] w fun e w' => ∃ a' cap', e = .returned (.tuple #[.slice a' (levL n xs).length cap', .bool (isIv n xs)]) ∧ OwnI w' w.heap.size (.slice a' (levL n xs).length cap') (levL n xs) ∧ Below w.heap.size w w' := by
  have hx1 := hx.alloc (.cells #[.int .i64 n, .slice a xs.length cap] 31)
  obtain ⟨i0, hi, hz0, hz1, hz2⟩ := info_parts infoInt
  cases hr : isIv n xs
  · have H1 : Hid (levL n xs = []) := by simp [Hid, levL, hr]
    have HR := Lib.hid hr
    clear hr
    go_enter Tryz.func40, Tryz.ntmps40
    go_wp2_with fail
    refine (iIsInterval_any _ _ _ _ _ hn hx1).mono ?_
    rw [HR.out]
    rintro e w1 ⟨rfl, hb1⟩
    have bw1 : Below w.heap.size w w1 := Below.trans (by repeat (first | exact Below.refl _ _ | assumption | refine Below.alloc ?_ (by first | exact Nat.le_refl _ | (simp only [World.size_alloc, World.size_setCell, World.size_drew]; omega) | omega) _ | refine Below.setCell ?_ (by first | exact Nat.le_refl _ | (simp only [World.size_alloc, World.size_setCell, World.size_drew]; omega) | omega) _ | refine Below.drew ?_)) (hb1.mono (by first | (simp only [World.size_alloc, World.size_setCell, World.size_drew]; omega) | omega))
    go_wp2_with fail
    refine bodyPost_ret (v := .tuple #[.slice none 0 0, .bool false]) (by simp [results, Tryz.results40, go_sem]) rfl ?_
    exact ⟨none, 0, by rw [H1.out]; rfl, by rw [H1.out]; exact OwnI.nil _ _, bw1⟩
  · have ho := isIv_ord hr
    have hp := ord_rel ho
    have H1 : Hid (levL n xs = levs xs xs.length) := by simp [Hid, levL, hr]
    have HR := Lib.hid hr
    have HO := Lib.hid ho
    obtain rfl : n = (xs.length : Int) := hp.len.symm
    have hl10 : xs.length ≤ 10 := by have := hp.n1; omega
    clear hr ho
    go_enter Tryz.func40, Tryz.ntmps40
    go_wp2_with fail
    refine (iIsInterval_any _ _ _ _ _ hn hx1).mono ?_
    rw [HR.out, HO.out]
    rintro e w1 ⟨rfl, hb1⟩
    have A1 : Box2 w1 w.heap.size (.int .i64 (xs.length : Int)) (.slice a xs.length cap) := (Box2.new w _ _ _).below hb1
    have bw1 : Below w.heap.size w w1 := Below.trans (by repeat (first | exact Below.refl _ _ | assumption | refine Below.alloc ?_ (by first | exact Nat.le_refl _ | (simp only [World.size_alloc, World.size_setCell, World.size_drew]; omega) | omega) _ | refine Below.setCell ?_ (by first | exact Nat.le_refl _ | (simp only [World.size_alloc, World.size_setCell, World.size_drew]; omega) | omega) _ | refine Below.drew ?_)) (hb1.mono (by first | (simp only [World.size_alloc, World.size_setCell, World.size_drew]; omega) | omega))
    have ⟨zA, cA, dA⟩ := A1
    clear hb1
    go_wp2_with fail
    refine (lowerSets_any _ _ _ _ _ (hx.below bw1) hp).mono ?_
    obtain ⟨ss, hss⟩ : ∃ ss, ss = sets xs := ⟨_, rfl⟩
    have hbd : ∀ m, m < ss.length → 0 ≤ nth ss m ∧ nth ss m < 1024 := fun m hm => by rw [hss] at hm ⊢; exact setsTo_bd hl10 hm
    have hlv : ∀ i, lv xs i = ((lvTo ss ((belowTo xs (i : Int) xs.length : Nat) : Int) ss.length : Nat) : Int) := fun i => by rw [hss]; rfl
    have hsl : ss.length ≤ xs.length := by rw [hss]; exact sets_len xs
    rw [← hss]
    have HBD := Lib.hid hbd
    have HLV := Lib.hid hlv
    clear hss hbd hlv
    rintro e w2 ⟨a2, cap2, rfl, ho2, hb2⟩
    have A2 := A1.below hb2
    have bw2 := bw1.trans (hb2.mono bw1.size)
    have hrs := ho2.rd
    have zw2 : w.heap.size + 1 ≤ w2.heap.size := by have := A2.1; omega
    clear zA cA dA A1 hb2
    have ⟨zA, cA, dA⟩ := A2
    go_wp2_with (at_make; refine wpList_make_full _ rfl (.tmp 22) (.tmp 22) 24 rfl w2.heap.size 3 i0 (.int .i64 0) 1 Tryz.underlying24 hi hz0 hz1 .i64 .i64 _ _ xs.length rfl rfl rfl rfl (by rw [hz2]; omega) (by unfold maxLen; omega) (Nat.le_refl _) ?_; intro w3 hown hgrow; have A3 := A2.kept hgrow (by simp))
    have hb3 : Below w2.heap.size w2 w3 := (Below.refl _ _).grown hgrow (Nat.le_refl _) (fun k h => by cases h)
    have hown0 := made_row (lv xs) hown
    clear hown hgrow cA dA zA A2
    go_wp2_with fail
    go_loopw [26] (fun i wr => ∃ k : Nat, k ≤ xs.length ∧ i = .int .i64 k ∧ OwnI wr w2.heap.size (.slice (some ⟨w2.heap.size, 0, none⟩) xs.length xs.length) (rowF (lv xs) xs.length k) ∧ Below w2.heap.size w2 wr ∧ Box2 wr w.heap.size (.int .i64 (xs.length : Int)) (.slice a xs.length cap)) (fun i _ => xs.length - (intOf i).toNat)
    case atStart => exact ⟨0, Nat.zero_le _, rfl, hown0, hb3, A3⟩
    case round =>
      obtain ⟨k, hk, rfl, hown, hb, hA⟩ := hrel
      have ⟨zB, cB, dB⟩ := hA
      by_cases hlt : k < xs.length
      · have k0 : (0 : Int) ≤ (k : Int) := by omega
        have k1 : (k : Int) < (xs.length : Int) := by omega
        have hbt := belowTo_small xs (k : Int) (k := xs.length) hl10
        go_wp2_with fail
        refine (belowSet_any _ _ _ _ _ _ (hx.below (bw2.trans (hb.mono bw2.size))) hp k0).mono ?_
        rintro e w4 ⟨rfl, hb4⟩
        have A4 := hA.below hb4
        have b4 := hb.trans (hb4.mono hb.size)
        have o4 := hown.below hb4 (Nat.le_refl _)
        clear cB dB hb4 hown
        go_wp2_with fail
        go_loopw [34] (fun i' wi => ∃ j : Nat, j ≤ ss.length ∧ i' = .int .i64 j ∧ OwnI wi w2.heap.size (.slice (some ⟨w2.heap.size, 0, none⟩) xs.length xs.length) ((rowF (lv xs) xs.length k).set k ((lvTo ss ((belowTo xs (k : Int) xs.length : Nat) : Int) j : Nat) : Int)) ∧ Below w2.heap.size w2 wi ∧ Box2 wi w.heap.size (.int .i64 (xs.length : Int)) (.slice a xs.length cap)) (fun i _ => ss.length - (intOf i).toNat)
        case atStart => exact ⟨0, Nat.zero_le _, rfl, by rw [lvTo, show (((0 : Nat) : Nat) : Int) = 0 from rfl, rowF_zero _ hlt]; exact o4, b4, A4⟩
        case round =>
          obtain ⟨j, hj, rfl, hown, hb, hA⟩ := hrel
          by_cases hjl : j < ss.length
          · obtain ⟨b2, off2, rfl, hbl2, hc2⟩ := (hrs.below hb).cell j hjl
            have ⟨s0, s1⟩ := HBD.out j hjl
            have hle := lvTo_le ss ((belowTo xs (k : Int) xs.length : Nat) : Int) j
            cases hne : (nth ss j != ((belowTo xs (k : Int) xs.length : Nat) : Int))
            · have HN := Lib.hid (lessB_ne hne)
              go_wp2_with fail
              go_roundw
              case rel => exact ⟨j + 1, by omega, by go_num, by simp only [lvTo, HN.out]; exact hown, hb, hA⟩
              case measure => simp [intOf]; omega
            · have hsb := lessB_sub s0 s1 hbt hne
              cases hlb : lessB (nth ss j) ((belowTo xs (k : Int) xs.length : Nat) : Int)
              · rw [hlb] at hsb
                have HN := Lib.hid hlb
                clear hlb
                go_wp2_with fail
                go_roundw
                case rel => exact ⟨j + 1, by omega, by go_num, by simp only [lvTo, HN.out]; exact hown, hb, hA⟩
                case measure => simp [intOf]; omega
              · rw [hlb] at hsb
                have HN := Lib.hid hlb
                clear hlb
                obtain ⟨row, hrow⟩ : ∃ row, row = (rowF (lv xs) xs.length k).set k ((lvTo ss ((belowTo xs (k : Int) xs.length : Nat) : Int) j : Nat) : Int) := ⟨_, rfl⟩
                have hrl : row.length = xs.length := by rw [hrow, List.length_set, rowF_len _ hk]
                have hrk : nth row k = ((lvTo ss ((belowTo xs (k : Int) xs.length : Nat) : Int) j : Nat) : Int) := by rw [hrow, nth_set (by rw [rowF_len _ hk]; exact hlt), if_pos rfl]
                have hrs : ∀ y, row.set k y = (rowF (lv xs) xs.length k).set k y := by intro y; rw [hrow, List.set_set]
                rw [← hrow] at hown
                have ⟨ci, fi⟩ := hown.at' hrl.symm (i := k) (by omega)
                rw [hrk] at ci
                have hput := hown.put hrl.symm k ((lvTo ss ((belowTo xs (k : Int) xs.length : Nat) : Int) j + 1 : Nat) : Int)
                rw [hrs] at hput
                have HP := Lib.hid hput
                clear hput hrow hrl hrk hrs hown
                go_wp2_with fail
                go_roundw
                case rel =>
                  refine ⟨j + 1, by omega, by go_num, ?_, hb.setCell (p := ⟨w2.heap.size, k, none⟩) (Nat.le_refl _) _, hA.set (p := ⟨w2.heap.size, k, none⟩) _ (show w.heap.size ≠ w2.heap.size by omega)⟩
                  have := HP.out.1
                  simp only [lvTo, HN.out, if_true]
                  exact this
                case measure => simp [intOf]; omega
          · obtain rfl : j = ss.length := by omega
            have hnext : (rowF (lv xs) xs.length k).set k ((lvTo ss ((belowTo xs (k : Int) xs.length : Nat) : Int) ss.length : Nat) : Int) = rowF (lv xs) xs.length (k + 1) := by
              rw [← rowF_set _ hlt, HLV.out]
            rw [hnext] at hown
            have HN := Lib.hid hown
            clear hnext hown
            go_wp2_with fail
            go_roundw
            case rel => exact ⟨k + 1, by omega, by go_num, HN.out, hb, hA⟩
            case measure => simp [intOf]; omega
      · obtain rfl : k = xs.length := by omega
        rw [rowF_end] at hown
        go_wp2_with fail
        refine bodyPost_ret (v := .tuple #[.slice (some ⟨w2.heap.size, 0, none⟩) xs.length xs.length, .bool true]) (by simp [results, Tryz.results40, go_sem]) rfl ?_
        exact ⟨some ⟨w2.heap.size, 0, none⟩, xs.length, by rw [H1.out, levs_len], by rw [H1.out, levs_len]; exact hown.mono bw2.size, bw2.trans (hb.mono bw2.size)⟩

/-- the row while the right end of k is being found -/
def endRow (xs : List Int) (k j : Nat) : List Int := ((rowP (lv xs) (rtE xs) xs.length k).set (k * 2) (lv xs k)).set (k * 2 + 1) (rtTo 0 xs k j)
theorem endRow_len (xs : List Int) {k : Nat} (j : Nat) (h : k ≤ xs.length) : (endRow xs k j).length = xs.length * 2 := by
  rw [endRow, List.length_set, List.length_set, rowP_len _ _ h]
theorem endRow_zero (xs : List Int) {k : Nat} (h : k < xs.length) : (rowP (lv xs) (rtE xs) xs.length k).set (k * 2) (lv xs k) = endRow xs k 0 := by
  have hl := rowP_len (lv xs) (rtE xs) (Nat.le_of_lt h)
  apply nth_ext' (by rw [endRow_len xs 0 (by omega), List.length_set, hl])
  intro i hi
  rw [List.length_set, hl] at hi
  rw [endRow, nth_set' (xs := (rowP (lv xs) (rtE xs) xs.length k).set (k * 2) (lv xs k)) (by rw [List.length_set, hl]; omega)]
  by_cases e : k * 2 + 1 = i
  · subst e
    rw [if_pos rfl, nth_set' (by rw [hl]; omega), if_neg (by omega), rowP_nth _ _ (by omega) hi, if_neg (by omega)]
    rfl
  · rw [if_neg e]
theorem endRow_end (xs : List Int) {k : Nat} (h : k < xs.length) : endRow xs k xs.length = rowP (lv xs) (rtE xs) xs.length (k + 1) := rowP_next _ _ h
theorem endRow_set (xs : List Int) (k j : Nat) (y : Int) : (endRow xs k j).set (k * 2 + 1) y = ((rowP (lv xs) (rtE xs) xs.length k).set (k * 2) (lv xs k)).set (k * 2 + 1) y := by
  rw [endRow, List.set_set]
theorem endRow_nth (xs : List Int) {k : Nat} (j : Nat) (h : k < xs.length) : nth (endRow xs k j) (k * 2 + 1) = rtTo 0 xs k j := by
  rw [endRow, nth_set' (by rw [List.length_set, rowP_len _ _ (by omega)]; omega), if_pos rfl]
theorem endRow_yes {xs : List Int} {k j : Nat} (h : hasB (nth xs k) j = true) : endRow xs k (j+1) = endRow xs k j := by
  rw [endRow, endRow, rtTo, if_pos h]
theorem iEnds_any (n : Int) (a : Option Addr) (xs : List Int) (cap : Nat) (w : World) (hn : -9223372036854775808 ≤ n ∧ n ≤ 9223372036854775807) (hx : Rd w a xs) :
    Calls Tryz.prog 14 #[.agg #[.int .i64 n, .slice a xs.length cap]] w (GotV w (endN n xs) (endL n xs) (isIv n xs)) := by
  have hx1 := hx.alloc (.cells #[.int .i64 n, .slice a xs.length cap] 31)
  obtain ⟨i0, hi, hz0, hz1, hz2⟩ := info_parts infoIv
  cases hr : isIv n xs
  · have H1 : Hid (endN n xs = 0) := by simp [Hid, endN, hr]
    have H2 : Hid (endL n xs = []) := by simp [Hid, endL, hr]
    have H3 : Hid (levL n xs = []) := by simp [Hid, levL, hr]
    have HR := Lib.hid hr
    clear hr
    go_enter Tryz.func14, Tryz.ntmps14
    go_wp2_with fail
    refine (iLevels_any _ _ _ _ _ hn hx1).mono ?_
    rw [HR.out, H3.out]
    rintro e w1 ⟨a1, cap1, rfl, ho1, hb1⟩
    have bw1 : Below w.heap.size w w1 := Below.trans (by repeat (first | exact Below.refl _ _ | assumption | refine Below.alloc ?_ (by first | exact Nat.le_refl _ | (simp only [World.size_alloc, World.size_setCell, World.size_drew]; omega) | omega) _ | refine Below.setCell ?_ (by first | exact Nat.le_refl _ | (simp only [World.size_alloc, World.size_setCell, World.size_drew]; omega) | omega) _ | refine Below.drew ?_)) (hb1.mono (by first | (simp only [World.size_alloc, World.size_setCell, World.size_drew]; omega) | omega))
    clear ho1
    go_wp2_with fail
    refine bodyPost_ret (v := .tuple #[.slice none 0 0, .bool false]) (by simp [results, Tryz.results14, go_sem]) rfl ?_
    exact ⟨none, 0, by rw [H1.out], by rw [H1.out, H2.out]; exact OwnV.nil _ _, bw1⟩
  · have ho := isIv_ord hr
    have hp := ord_rel ho
    have H1 : Hid (endN n xs = xs.length) := by simp [Hid, endN, hr]
    have H2 : Hid (endL n xs = endp xs xs.length) := by simp [Hid, endL, hr]
    have H3 : Hid (levL n xs = levs xs xs.length) := by simp [Hid, levL, hr]
    have HR := Lib.hid hr
    obtain rfl : n = (xs.length : Int) := hp.len.symm
    have hl10 : xs.length ≤ 10 := by have := hp.n1; omega
    clear hr ho
    go_enter Tryz.func14, Tryz.ntmps14
    go_wp2_with fail
    refine (iLevels_any _ _ _ _ _ hn hx1).mono ?_
    rw [HR.out, H3.out, levs_len]
    rintro e w1 ⟨a1, cap1, rfl, ho1, hb1⟩
    have A1 : Box2 w1 w.heap.size (.int .i64 (xs.length : Int)) (.slice a xs.length cap) := (Box2.new w _ _ _).below hb1
    have bw1 : Below w.heap.size w w1 := Below.trans (by repeat (first | exact Below.refl _ _ | assumption | refine Below.alloc ?_ (by first | exact Nat.le_refl _ | (simp only [World.size_alloc, World.size_setCell, World.size_drew]; omega) | omega) _ | refine Below.setCell ?_ (by first | exact Nat.le_refl _ | (simp only [World.size_alloc, World.size_setCell, World.size_drew]; omega) | omega) _ | refine Below.drew ?_)) (hb1.mono (by first | (simp only [World.size_alloc, World.size_setCell, World.size_drew]; omega) | omega))
    have ⟨zA, cA, dA⟩ := A1
    have hrl : Rd w1 a1 (levs xs xs.length) := ho1.rd
    clear hb1 ho1
    go_wp2_with (at_make; refine wpList_make_full _ rfl (.tmp 19) (.tmp 19) 26 rfl w1.heap.size 65 i0 (.agg #[.int .i64 0, .int .i64 0]) 2 Tryz.underlying26 hi hz0 hz1 .i64 .i64 _ _ xs.length rfl rfl rfl rfl (by rw [hz2]; omega) (by unfold maxLen; omega) (Nat.le_refl _) ?_; intro w2 hown hgrow; have A2 := A1.kept hgrow (by simp))
    have hb2 : Below w1.heap.size w1 w2 := (Below.refl _ _).grown hgrow (Nat.le_refl _) (fun k h => by cases h)
    have hown0 := made_rowP (lv xs) (rtE xs) hown
    clear hown hgrow cA dA
    go_wp2_with fail
    go_loopw [23] (fun i wr => ∃ k : Nat, k ≤ xs.length ∧ i = .int .i64 k ∧ OwnV wr w1.heap.size (.slice (some ⟨w1.heap.size, 0, none⟩) xs.length xs.length) xs.length (rowP (lv xs) (rtE xs) xs.length k) ∧ Below w1.heap.size w1 wr ∧ Box2 wr w.heap.size (.int .i64 (xs.length : Int)) (.slice a xs.length cap)) (fun i _ => xs.length - (intOf i).toNat)
    case atStart => exact ⟨0, Nat.zero_le _, rfl, hown0, hb2, A2⟩
    case round =>
      obtain ⟨k, hk, rfl, hown, hb, hA⟩ := hrel
      by_cases hlt : k < xs.length
      · obtain ⟨b, off, rfl, hbl, hck⟩ := (hrl.below hb).cell k (by rw [levs_len]; exact hlt)
        rw [levs_nth xs hlt] at hck
        have k0 : (0 : Int) ≤ (k : Int) := by omega
        have k1 : (k : Int) < (xs.length : Int) := by omega
        have hpl := rowP_len (lv xs) (rtE xs) hk
        have ⟨c1, f1⟩ := hown.at' (i := k * 2) (by omega)
        have p1 := hown.put (k * 2) (lv xs k)
        rw [endRow_zero xs hlt] at p1
        have P1 := Lib.hid p1.1
        have A3 := hA.kept p1.2 (by simp; omega)
        have b3 := hb.setCell (p := ⟨w1.heap.size, k * 2, none⟩) (Nat.le_refl _) (.int .i64 (lv xs k))
        clear hown p1 hpl
        go_wp2_with fail
        go_loopw [35] (fun i' wi => ∃ j : Nat, j ≤ xs.length ∧ i' = .int .i64 j ∧ OwnV wi w1.heap.size (.slice (some ⟨w1.heap.size, 0, none⟩) xs.length xs.length) xs.length (endRow xs k j) ∧ Below w1.heap.size w1 wi ∧ Box2 wi w.heap.size (.int .i64 (xs.length : Int)) (.slice a xs.length cap)) (fun i _ => xs.length - (intOf i).toNat)
        case atStart => exact ⟨0, Nat.zero_le _, rfl, P1.out, b3, A3⟩
        case round =>
          obtain ⟨j, hj, rfl, hown, hb, hA⟩ := hrel
          have ⟨zB, cB, dB⟩ := hA
          by_cases hjl : j < xs.length
          · obtain ⟨b2, off2, e2, hbl2, hcj⟩ := (hrl.below hb).cell j (by rw [levs_len]; exact hjl)
            simp only [Option.some.injEq, Addr.mk.injEq, and_true] at e2
            obtain ⟨rfl, rfl⟩ := e2
            rw [levs_nth xs hjl] at hcj
            obtain ⟨b3, off3, rfl, hbl3, hc3⟩ := (hx.below (bw1.trans (hb.mono bw1.size))).cell k hlt
            have s0 := hp.pos k hlt
            have s2 : nth xs k ≤ 9223372036854775807 := by have := hp.small k hlt; omega
            have j0 : (0 : Int) ≤ (j : Int) := by omega
            have j1 : (j : Int) < (xs.length : Int) := by omega
            cases hhas : hasB (nth xs k) j
            · have hel := endRow_len xs (k := k) j hk
              have ⟨c2, f2⟩ := hown.at' (i := k * 2 + 1) (by omega)
              rw [endRow_nth xs j hlt] at c2
              have ⟨r0, r1⟩ := rtTo_bd (st := 0) (xs := xs) (i := k) (k := j) (by omega) (by omega)
              have ⟨l0, l1⟩ := lv_bd xs j
              have p2 := hown.put (k * 2 + 1) (rtTo 0 xs k (j + 1))
              rw [endRow_set] at p2
              have P2 := Lib.hid p2.1
              have A4 := hA.kept p2.2 (by simp; omega)
              have b4 := hb.setCell (p := ⟨w1.heap.size, k * 2 + 1, none⟩) (Nat.le_refl _) (.int .i64 (rtTo 0 xs k (j + 1)))
              have hmx : max (rtTo 0 xs k j) (lv xs j) = rtTo 0 xs k (j + 1) := by rw [rtTo_no hhas, maxI]; split <;> omega
              have HM := Lib.hid hmx
              clear p2 hel hown hmx
              go_wp2_with (go_at_call 41; refine (hasElement_any _ _ _ (by assumption) (by assumption) (by assumption)).mono ?_; rintro e w' ⟨rfl, rfl⟩)
              go_roundw
              case rel => rw [HM.out]; exact ⟨j + 1, by omega, by go_num, P2.out, b4, A4⟩
              case measure => simp [intOf]; omega
            · have HE := Lib.hid (endRow_yes hhas)
              go_wp2_with (go_at_call 41; refine (hasElement_any _ _ _ (by assumption) (by assumption) (by assumption)).mono ?_; rintro e w' ⟨rfl, rfl⟩)
              go_roundw
              case rel => exact ⟨j + 1, by omega, by go_num, by rw [HE.out]; exact hown, hb, hA⟩
              case measure => simp [intOf]; omega
          · obtain rfl : j = xs.length := by omega
            rw [endRow_end xs hlt] at hown
            go_wp2_with fail
            go_roundw
            case rel => exact ⟨k + 1, by omega, by go_num, hown, hb, hA⟩
            case measure => simp [intOf]; omega
      · obtain rfl : k = xs.length := by omega
        rw [rowP_end] at hown
        go_wp2_with fail
        refine bodyPost_ret (v := .tuple #[.slice (some ⟨w1.heap.size, 0, none⟩) xs.length xs.length, .bool true]) (by simp [results, Tryz.results14, go_sem]) rfl ?_
        exact ⟨some ⟨w1.heap.size, 0, none⟩, xs.length, by rw [H1.out], by rw [H1.out, H2.out]; exact hown.mono bw1.size, bw1.trans (hb.mono bw1.size)⟩

theorem ret_ib' {a a' : Int} {b b' : Bool} (h1 : a = a') (h2 : b = b') : Ending.returned (.tuple #[.int .i64 a, .bool b]) = .returned (.tuple #[.int .i64 a', .bool b']) := by rw [h1, h2]

theorem iMagnitude_any (n : Int) (a : Option Addr) (xs : List Int) (cap : Nat) (w : World) (hn : -9223372036854775808 ≤ n ∧ n ≤ 9223372036854775807) (hx : Rd w a xs) :
    Calls Tryz.prog 15 #[.agg #[.int .i64 n, .slice a xs.length cap]] w fun e w' => e = .returned (.tuple #[.int .i64 (magF n xs), .bool (isIv n xs)]) ∧ Below w.heap.size w w' := by
  have hx1 := hx.alloc (.cells #[.int .i64 n, .slice a xs.length cap] 31)
  cases hr : isIv n xs
  · have H1 : Hid (magF n xs = 0) := by simp [Hid, magF, hr]
    have HR := Lib.hid hr
    clear hr
    go_enter Tryz.func15, Tryz.ntmps15
    go_wp2_with fail
    refine (iIsInterval_any _ _ _ _ _ hn hx1).mono ?_
    rw [HR.out]
    rintro e w1 ⟨rfl, hb1⟩
    have bw1 : Below w.heap.size w w1 := Below.trans (by repeat (first | exact Below.refl _ _ | assumption | refine Below.alloc ?_ (by first | exact Nat.le_refl _ | (simp only [World.size_alloc, World.size_setCell, World.size_drew]; omega) | omega) _ | refine Below.setCell ?_ (by first | exact Nat.le_refl _ | (simp only [World.size_alloc, World.size_setCell, World.size_drew]; omega) | omega) _ | refine Below.drew ?_)) (hb1.mono (by first | (simp only [World.size_alloc, World.size_setCell, World.size_drew]; omega) | omega))
    go_wp2_with fail
    go_ret2
    exact ⟨ret_ib' H1.out.symm rfl, bw1⟩
  · have ho := isIv_ord hr
    have hp := ord_rel ho
    have hsl := sets_len xs
    have hl10 : xs.length ≤ 10 := by have := hp.len; have := hp.n1; omega
    have H1 : Hid (magF n xs = ((sets xs).length : Int)) := by rw [Hid, magF, if_pos hr]
    have HR := Lib.hid hr
    have HO := Lib.hid ho
    clear hr ho
    go_enter Tryz.func15, Tryz.ntmps15
    go_wp2_with fail
    refine (iIsInterval_any _ _ _ _ _ hn hx1).mono ?_
    rw [HR.out, HO.out]
    rintro e w1 ⟨rfl, hb1⟩
    have A1 : Box2 w1 w.heap.size (.int .i64 n) (.slice a xs.length cap) := (Box2.new w _ _ _).below hb1
    have bw1 : Below w.heap.size w w1 := Below.trans (by repeat (first | exact Below.refl _ _ | assumption | refine Below.alloc ?_ (by first | exact Nat.le_refl _ | (simp only [World.size_alloc, World.size_setCell, World.size_drew]; omega) | omega) _ | refine Below.setCell ?_ (by first | exact Nat.le_refl _ | (simp only [World.size_alloc, World.size_setCell, World.size_drew]; omega) | omega) _ | refine Below.drew ?_)) (hb1.mono (by first | (simp only [World.size_alloc, World.size_setCell, World.size_drew]; omega) | omega))
    have ⟨zA, cA, dA⟩ := A1
    clear hb1
    go_wp2_with fail
    refine (lowerSets_any _ _ _ _ _ (hx.below bw1) hp).mono ?_
    rintro e w2 ⟨a2, cap2, rfl, ho2, hb2⟩
    clear ho2
    go_wp2_with fail
    go_ret2
    exact ⟨ret_ib' H1.out.symm rfl, bw1.trans (hb2.mono bw1.size)⟩

set_option maxRecDepth 100000 in
set_option maxHeartbeats 1000000 in
theorem iMxOrd_any (n : Int) (a : Option Addr) (xs : List Int) (cap : Nat) (w : World) (hn : -9223372036854775808 ≤ n ∧ n ≤ 9223372036854775807) (hx : Rd w a xs) :
    Calls Tryz.prog 23 #[.agg #[.int .i64 n, .slice a xs.length cap]] w fun e w' => ∃ a0 c0 vl, e = .returned (.tuple #[.agg #[.slice a0 (moL n xs).length c0], .bool (isIv n xs)]) ∧ RowsP w' w.heap.size (.slice a0 (moL n xs).length c0) vl (moL n xs) ∧ Below w.heap.size w w' := by
  have hlen := hx.len
  have hV := Var1.new (w.alloc (.cells #[.int .i64 n, .slice a xs.length cap] 31)) (.slice none 0 0) 45
  have hb0 : Below w.heap.size w ((w.alloc (.cells #[.int .i64 n, .slice a xs.length cap] 31)).alloc (.cells #[.slice none 0 0] 45)) := (by repeat (first | exact Below.refl _ _ | assumption | refine Below.alloc ?_ (by first | exact Nat.le_refl _ | (simp only [World.size_alloc, World.size_setCell, World.size_drew]; omega) | omega) _ | refine Below.setCell ?_ (by first | exact Nat.le_refl _ | (simp only [World.size_alloc, World.size_setCell, World.size_drew]; omega) | omega) _ | refine Below.drew ?_))
  have hA := (Box2.new w (.int .i64 n) (.slice a xs.length cap) 31).below ((Below.refl _ _).alloc (Nat.le_refl _) (.cells #[.slice none 0 0] 45))
  rw [World.size_alloc] at hV
  have HCL := Lib.hid (fun W (h : Rd W a xs) => iEnds_any n a xs cap W hn h)
  cases hm : isIv n xs
  · have HM := Lib.hid hm
    have H1 : Hid (moL n xs = []) := by simp [Hid, moL, hm]
    clear hm
    go_enter Tryz.func23, Tryz.ntmps23
    go_wp2_with fail
    refine (HCL.out _ (hx.below hb0)).mono ?_
    rintro e w1 ⟨ag, cg, rfl, ho, hb⟩
    rw [HM.out]
    have b1 : Below w.heap.size w w1 := hb0.trans (hb.mono (by simp; omega))
    have hV1 := hV.below hb
    have ⟨⟨zV, cV⟩, fV⟩ := hV1
    clear hb hV ho
    go_wp2_with fail
    have hV2 := hV1.set (.slice none 0 0)
    have b2 := b1.setCell (p := ⟨w.heap.size + 1, 0, none⟩) (by simp) (.slice none 0 0)
    refine bodyPost_ret (v := .tuple #[.agg #[.slice none 0 0], .bool false]) (by have ⟨⟨_, q1⟩, _⟩ := hV2; simp [results, Tryz.results23, go_sem, q1]) rfl ?_
    exact ⟨none, 0, [], by rw [H1.out]; rfl, by rw [H1.out]; exact RowsP.nil _ _, b2⟩
  · have HM := Lib.hid hm
    have hp := ord_rel (isIv_ord hm)
    have h10 : xs.length ≤ 10 := by have := hp.len; have := hp.n1; omega
    have hsl := sets_len xs
    have HE : Hid (∀ k, k < xs.length → (0 ≤ lv xs k ∧ lv xs k < ((sets xs).length : Int)) ∧ (0 ≤ rtE xs k ∧ rtE xs k < ((sets xs).length : Int))) := fun k hk => ends_in hm hk
    have H1 : Hid (moL n xs = sqM (cntE xs xs.length) (sets xs).length (sets xs).length) := by rw [Hid, moL, if_pos hm]
    have H2 : Hid (magF n xs = ((sets xs).length : Int)) := by rw [Hid, magF, if_pos hm]
    have H3 : Hid (endL n xs = endp xs xs.length) := by rw [Hid, endL, if_pos hm]
    have H4 : Hid (endN n xs = xs.length) := by rw [Hid, endN, if_pos hm]
    obtain ⟨D, hD⟩ : ∃ D, D = (sets xs).length := ⟨_, rfl⟩
    rw [← hD] at hsl HE H1 H2
    have HX := Lib.hid hx
    have HN := Lib.hid hn
    clear hm hp hx hD hn
    go_enter Tryz.func23, Tryz.ntmps23
    go_wp2_with fail
    refine (HCL.out _ (HX.out.below hb0)).mono ?_
    rintro e w1 ⟨ag, cg, rfl, ho, hb⟩
    rw [HM.out]
    rw [H3.out, H4.out] at ho
    rw [H4.out]
    have b1 : Below w.heap.size w w1 := hb0.trans (hb.mono (by simp; omega))
    have hV1 := hV.below hb
    have hA1 := hA.below hb
    have ⟨zA, cA, dA⟩ := hA1
    have hz1 : w.heap.size + 2 ≤ w1.heap.size := by have := hb.size; simp at this; omega
    have HO := Lib.hid ho
    have HV1 := Lib.hid hV1
    clear hb hV hb0 HCL ho hV1 hA hA1
    go_wp2_with fail
    refine (iMagnitude_any n a xs cap _ HN.out (HX.out.below b1)).mono ?_
    rintro e w2 ⟨rfl, hb2⟩
    rw [H2.out]
    have b2 := b1.trans (hb2.mono b1.size)
    have HO2 := Lib.hid (HO.out.below hb2 (Nat.le_refl _))
    have HV2 := Lib.hid (HV1.out.below hb2)
    have hz2 : w.heap.size + 2 ≤ w2.heap.size := by have := hb2.size; omega
    clear hb2 HO HV1 cA dA
    go_wp2_with fail
    refine (zeroRows_any D _ (by omega)).mono ?_
    rintro e w3 ⟨g, vl, rfl, hro, hb3⟩
    have b3 := b2.trans (hb3.mono b2.size)
    have hbk := HO2.out.lt
    have HRO := Lib.hid (hro.mono (B' := w2.heap.size) (Nat.le_refl _))
    have HO3 := Lib.hid ((HO2.out.below hb3 (Nat.le_refl _)).rd (by omega))
    have HV3 := Lib.hid (HV2.out.below hb3)
    have hs3 := hb3.size
    have HRd : Hid (∀ W, Below w2.heap.size w2 W → Rd W ag (endp xs xs.length)) := fun W h => (HO2.out.rd (by omega)).below h
    have bb3 : Below w2.heap.size w2 w3 := hb3
    have hz : sqM (fun _ _ => 0) D D = sqM (cntE xs 0) D D := sqM_congr (fun i hi j hj => rfl)
    rw [hz] at HRO
    clear hro hb3 HO2 hbk hz
    go_wp2_with fail
    go_loopw [28] (fun i wr => ∃ k : Nat, k ≤ xs.length ∧ i = .int .i64 k ∧ RowsP wr w2.heap.size (.slice (some ⟨g, 0, none⟩) D D) vl (sqM (cntE xs k) D D) ∧ Below w2.heap.size w2 wr) (fun i _ => xs.length - (intOf i).toNat)
    case atStart => exact ⟨0, Nat.zero_le _, rfl, HRO.out, bb3⟩
    case round =>
      obtain ⟨k, hk, rfl, hro, hb⟩ := hrel
      have hbs := hb.size
      have HRO := Lib.hid hro
      by_cases hlt : k < xs.length
      · have k1 : (k : Int) < (xs.length : Int) := by omega
        obtain ⟨b5, off5, rfl, hb5, hcl, hcr⟩ := (HRd.out wr hb).pair (prs_len _ _ _) hlt
        rw [endp, prs_lft _ _ hlt] at hcl
        rw [endp, prs_rgt _ _ hlt] at hcr
        have ⟨⟨l0, l1⟩, ⟨r0, r1⟩⟩ := HE.out k hlt
        obtain ⟨L, hL⟩ := Int.eq_ofNat_of_zero_le l0
        obtain ⟨R, hR⟩ := Int.eq_ofNat_of_zero_le r0
        have HST : Hid (L < D → R < D → setM (sqM (cntE xs k) D D) L R (cntE xs k L R + 1) = sqM (cntE xs (k+1)) D D) := fun h1 h2 => cntE_step hL hR h1 h2
        rw [hL] at l0 l1 hcl
        rw [hR] at r0 r1 hcr
        have hLd : L < D := by omega
        have hRd : R < D := by omega
        clear hL hR
        obtain ⟨g4, e4, hg4, hg5, hc4, hf4⟩ := hro.outer (k := L) (by rw [sqM_len]; exact hLd)
        simp only [Option.some.injEq, Addr.mk.injEq, and_true] at e4
        subst e4
        obtain ⟨g6, c6, e6, hg6, hg7, hc6, hf6, hnew⟩ := hro.num (i := L) (j := R) (by rw [sqM_len]; exact hLd) (by rw [sqM_rlen hLd]; exact hRd)
        rw [e6, sqM_rlen hLd] at hc4
        rw [sqM_at hLd hRd] at hc6
        have hn2 := hnew (cntE xs k L R + 1)
        rw [HST.out hLd hRd] at hn2
        have ⟨hb1, hb2⟩ := cntE_bd xs L R k
        obtain ⟨Z, hZ⟩ : ∃ Z, Z = cntE xs k L R := ⟨_, rfl⟩
        rw [← hZ] at hc6 hn2 hb1 hb2
        have hal : Below w2.heap.size w2 ((wr.setCell ⟨g6, R, none⟩ (.int .i64 (Z + 1))).alloc (.cells #[.int .i64 (L : Int), .int .i64 (R : Int)] 65)) := (hb.setCell (p := ⟨g6, R, none⟩) hg6 _).alloc (by simpa using hbs) _
        have hn3 := hn2.below ((Below.refl _ _).alloc (Nat.le_refl _) (.cells #[.int .i64 (L : Int), .int .i64 (R : Int)] 65)) (Nat.le_refl _)
        have HN3 := Lib.hid hn3
        clear hro hnew hn2 hn3 e6 hZ
        go_wp2_with fail
        go_region
        all_goals
          go_wp2_with fail
          go_roundw
          case rel =>
            refine ⟨k + 1, by omega, by go_num, ?_, ?_⟩
            · first
              | exact HN3.out
              | exact HN3.out.below (Below.refl _ _).drew (Nat.le_refl _)
            · first
              | exact hal
              | exact hal.drew
          case measure => simp [intOf]; omega
      · obtain rfl : k = xs.length := by omega
        have hV := HV2.out.below hb
        have ⟨⟨zV, cV⟩, fV⟩ := hV
        have HV1 := Lib.hid hV
        have bw := b2.trans (hb.mono (by omega))
        clear hro hV
        go_wp2_with fail
        have hV2 := HV1.out.set (.slice (some ⟨g, 0, none⟩) D D)
        have b2 := bw.setCell (p := ⟨w.heap.size + 1, 0, none⟩) (by simp) (.slice (some ⟨g, 0, none⟩) D D)
        refine bodyPost_ret (v := .tuple #[.agg #[.slice (some ⟨g, 0, none⟩) D D], .bool true]) (by have ⟨⟨_, q1⟩, _⟩ := hV2; simp [results, Tryz.results23, go_sem, q1]) rfl ?_
        exact ⟨_, D, vl, by rw [H1.out, sqM_len], by rw [H1.out, sqM_len]; exact (HRO.out.setBelow (show w.heap.size + 1 < w2.heap.size by omega) _).mono (by omega), b2⟩

def amL (xss : List (List Int)) : List Int := if mxB xss then asL xss else []
theorem amL_len (xss : List (List Int)) : (amL xss).length ≤ 1048576 := by
  unfold amL
  split
  · rename_i h
    have := of_mx h
    rw [asL, asF_len, asN]; omega
  · simp

set_option maxRecDepth 100000 in
set_option maxHeartbeats 1000000 in
theorem takeOut_any (g c B n x : Nat) (vl : List Value) (f : Nat → Nat → Int) (w : World) (h : RowsP w B (.slice (some ⟨g, 0, none⟩) n c) vl (sqM f n n)) (hx : x < n) (hB : B ≤ w.heap.size) (hn : n ≤ 12) (hnc : n ≤ c) (hc : c ≤ 1048576) :
    Calls Tryz.prog 89 #[.slice (some ⟨g, 0, none⟩) n c, .int .i64 (x : Int)] w fun e w' => ∃ ul, e = .returned (.slice (some ⟨g, 0, none⟩) (n - 1) c) ∧ RowsP w' B (.slice (some ⟨g, 0, none⟩) (n - 1) c) ul (sqM (shF f n x) (n - 1) (n - 1)) ∧ Below B w w' := by
  have hxc : x ≤ c := by omega
  have hxn : x ≤ n := by omega
  have HSW := Lib.hid (fun c2 => swapLast_any g c c2 B n n x x vl f w h hxn hx (by omega) hB (by omega))
  have hgl := h.o.lt g rfl
  obtain ⟨F, hF⟩ : ∃ F, F = swF f n x x := ⟨_, rfl⟩
  have HSH : Hid (∀ m k, sqM (shF f n x) m k = sqM (fun a b => F (skp x a) (skp x b)) m k) := fun m k => by rw [hF]; rfl
  rw [← hF] at HSW
  clear hF h
  go_enter Tryz.func89, Tryz.ntmps89
  go_wp2_with fail
  refine (HSW.out _).mono ?_
  rintro e w1 ⟨rfl, hro1, hb1⟩
  have hsl : ∀ i, i < n → ∃ a m c, valAt vl i = .slice a m c := fun i hi => by
    obtain ⟨a9, c9, e9⟩ := (hro1.o.row i (by rw [sqM_len]; exact hi)).form
    exact ⟨a9, _, c9, e9⟩
  have hown := hro1.o.own
  rw [sqM_len] at hown
  have HDEL := Lib.hid (delRows_any g n c B x vl w1 hown hsl hx hnc hc)
  have HR1 := Lib.hid hro1
  have hs1 := hb1.size
  clear hro1 hsl hown HSW
  go_wp2_with fail
  refine HDEL.out.mono ?_
  rintro e w2 ⟨rfl, ho2, hg2⟩
  have hro2 := HR1.out.del hx ho2 hg2
  have b2 : Below B w w2 := hb1.trans (grown_below hg2 B (by omega) (by omega))
  obtain ⟨G2, hG2⟩ : ∃ G2 : Nat → Nat → Int, G2 = fun a b => F (skp x a) b := ⟨_, rfl⟩
  have HSH2 : Hid (∀ m k, sqM (shF f n x) m k = sqM (fun a b => G2 a (skp x b)) m k) := fun m k => by rw [HSH.out, hG2]
  rw [← hG2, ← tkM_zero (x := x)] at hro2
  have HR2 := Lib.hid hro2
  have hs2 : w.heap.size ≤ w2.heap.size := b2.size
  obtain ⟨ul0, hul0⟩ : ∃ ul0, ul0 = vl.take x ++ vl.drop (x+1) := ⟨_, rfl⟩
  rw [← hul0] at HR2
  obtain ⟨N1, hN1⟩ : ∃ N1, N1 = n - 1 := ⟨_, rfl⟩
  have HN1 := Lib.hid hN1
  have hN1n : N1 ≤ n := by omega
  rw [← hN1] at HR2 ⊢
  clear hro2 ho2 hg2 hG2 hul0 HDEL HR1 hN1
  go_wp2_with fail
  go_loopw [20] (fun i wr => ∃ (k : Nat) (ul : List Value), k ≤ N1 ∧ i = .int .i64 k ∧ RowsP wr B (.slice (some ⟨g, 0, none⟩) N1 c) ul (tkM G2 n x k) ∧ Below B w wr) (fun i _ => N1 - (intOf i).toNat)
  case atStart => exact ⟨0, _, Nat.zero_le _, rfl, HR2.out, b2⟩
  case round =>
    clear b2
    obtain ⟨k, ul, hk, rfl, hro, hb⟩ := hrel
    have hbs := hb.size
    by_cases hlt : k < N1
    · have k1 : (k : Int) < (N1 : Int) := by omega
      have hkl : k < n - 1 := by rw [← HN1.out]; exact hlt
      have hk9 : k < (tkM G2 n x k).length := by rw [tkM_len]; exact hkl
      obtain ⟨g4, e4, hg4, hg5, hc4, hf4⟩ := hro.outer hk9
      simp only [Option.some.injEq, Addr.mk.injEq, and_true] at e4
      subst e4
      have hrow := hro.o.row k hk9
      obtain ⟨ar, cr, er⟩ := hrow.form
      have hrl : (rowL (tkM G2 n x k) k).length = n := by rw [tkM_row hkl, if_neg (Nat.lt_irrefl k), fmap_len]
      have HRO := Lib.hid hro
      have HER := Lib.hid er
      have HTS := Lib.hid (tkM_step (f := G2) hkl hx)
      rw [er] at hc4 hrow
      have HDL := Lib.hid (delOwn ar cr x (rowL (tkM G2 n x k) k) B wr hrow (by rw [hrl]; exact hx))
      rw [hrl] at hc4 HDL HER
      have HNN : Hid (n - 1 = N1) := HN1.out.symm
      rw [HNN.out] at HDL
      clear hro hrow er hrl hk9 hkl
      go_wp2_with fail
      refine HDL.out.mono ?_
      rintro e w3 ⟨rfl, ho3, hg3⟩
      obtain ⟨g9, c9, e9, hg9, hg10, ⟨z9, hz9⟩, hf9, hnew⟩ := HRO.out.swapRow (k := k) (by rw [tkM_len, HNN.out]; exact hlt) (by rw [HER.out]; exact hg3) ho3 (by rw [HER.out]; cases ar <;> rfl)
      simp only [Value.slice.injEq, Option.some.injEq, Addr.mk.injEq, and_true] at e9
      obtain ⟨rfl, -, -⟩ := e9
      rw [HTS.out] at hnew
      have HNEW := Lib.hid hnew
      have hU := (HRO.out.o.row k (by rw [tkM_len, HNN.out]; exact hlt)).lt
      rw [HER.out] at hU
      have b3 := hb.trans (below_of_grown hg3 (fun c e => (hU c e).1) (by omega))
      have b4 := b3.setCell (p := ⟨g, k, none⟩) hg4 (.slice ar N1 cr)
      clear ho3 hg3 hnew hU
      go_wp2_with fail
      go_roundw
      case rel => exact ⟨k + 1, _, by omega, by go_num, HNEW.out, b4⟩
      case measure => simp [intOf]; omega
    · obtain rfl : k = N1 := by omega
      have HR := Lib.hid hro
      clear hro
      go_wp2_with fail
      go_ret
      have hf := HR.out
      rw [show tkM G2 n x k = sqM (fun a b => G2 a (skp x b)) k k by have h := tkM_end (f := G2) (n := n) (x := x); rw [← HN1.out] at h; exact h, ← HSH2.out] at hf
      rw [← HN1.out]
      exact ⟨ul, rfl, hf, hb⟩

set_option maxRecDepth 100000 in
theorem iTopMx_any (a : Option Addr) (xss : List (List Int)) (cap : Nat) (w : World) (hx : RdC w a xss) (hs : xss.length + totS xss xss.length ≤ 1048576) :
    Calls Tryz.prog 87 #[.agg #[.slice a xss.length cap]] w fun e w' => e = .returned (.tuple #[.int .i64 (topV xss), .bool (topB xss)]) ∧ Below w.heap.size w w' := by
  have hlen := hx.rd.len
  have HX := Lib.hid hx
  have HCL := Lib.hid (fun W (h : RdC W a xss) => iIsMatrix_any a xss cap W h hs)
  cases hm : mxB xss
  · have HM := Lib.hid hm
    have H2 : Hid (topB xss = false) := by simp [Hid, topB, hm]
    have H1 : Hid (topV xss = 0) := by rw [Hid, topV, H2.out]; rfl
    clear hm
    go_enter Tryz.func87, Tryz.ntmps87
    go_wp2_with fail
    refine (HCL.out _ (hx.below (by repeat (first | exact Below.refl _ _ | assumption | refine Below.alloc ?_ (by first | exact Nat.le_refl _ | (simp only [World.size_alloc, World.size_setCell, World.size_drew]; omega) | omega) _ | refine Below.setCell ?_ (by first | exact Nat.le_refl _ | (simp only [World.size_alloc, World.size_setCell, World.size_drew]; omega) | omega) _ | refine Below.drew ?_)))).mono ?_
    rintro e w1 ⟨rfl, hb⟩
    rw [HM.out]
    have b1 : Below w.heap.size w w1 := Below.trans (by repeat (first | exact Below.refl _ _ | assumption | refine Below.alloc ?_ (by first | exact Nat.le_refl _ | (simp only [World.size_alloc, World.size_setCell, World.size_drew]; omega) | omega) _ | refine Below.setCell ?_ (by first | exact Nat.le_refl _ | (simp only [World.size_alloc, World.size_setCell, World.size_drew]; omega) | omega) _ | refine Below.drew ?_)) (hb.mono (by first | (simp only [World.size_alloc, World.size_setCell, World.size_drew]; omega) | omega))
    clear hb
    go_wp2_with fail
    go_ret2
    exact ⟨ret_ib' H1.out.symm H2.out.symm, b1⟩
  · have HM := Lib.hid hm
    have h12 := mxB_small hm
    clear hm
    by_cases h0 : xss.length = 0
    · have h00 : ((xss.length : Int) == 0) = true := by simp [h0]
      have H2 : Hid (topB xss = false) := by simp [Hid, topB, h0]
      have H1 : Hid (topV xss = 0) := by rw [Hid, topV, H2.out]; rfl
      clear h0
      go_enter Tryz.func87, Tryz.ntmps87
      go_wp2_with fail
      refine (HCL.out _ (hx.below (by repeat (first | exact Below.refl _ _ | assumption | refine Below.alloc ?_ (by first | exact Nat.le_refl _ | (simp only [World.size_alloc, World.size_setCell, World.size_drew]; omega) | omega) _ | refine Below.setCell ?_ (by first | exact Nat.le_refl _ | (simp only [World.size_alloc, World.size_setCell, World.size_drew]; omega) | omega) _ | refine Below.drew ?_)))).mono ?_
      rintro e w1 ⟨rfl, hb⟩
      rw [HM.out]
      have b1 : Below w.heap.size w w1 := Below.trans (by repeat (first | exact Below.refl _ _ | assumption | refine Below.alloc ?_ (by first | exact Nat.le_refl _ | (simp only [World.size_alloc, World.size_setCell, World.size_drew]; omega) | omega) _ | refine Below.setCell ?_ (by first | exact Nat.le_refl _ | (simp only [World.size_alloc, World.size_setCell, World.size_drew]; omega) | omega) _ | refine Below.drew ?_)) (hb.mono (by first | (simp only [World.size_alloc, World.size_setCell, World.size_drew]; omega) | omega))
      have hc0 := (hb.cell (p := ⟨w.heap.size, 0, none⟩) (by simp)).trans (show _ = some (Value.slice a xss.length cap) by simp)
      clear hb
      go_wp2_with fail
      go_ret2
      exact ⟨ret_ib' H1.out.symm H2.out.symm, b1⟩
    · have h00 : ((xss.length : Int) == 0) = false := by simp only [beq_eq_false_iff_ne, ne_eq]; omega
      have H2 : Hid (topB xss = true) := by simp only [Hid, topB, HM.out, Bool.true_and, decide_eq_true_eq]; exact h0
      have H1 : Hid (topV xss = ((topN xss : Nat) : Int)) := by rw [Hid, topV, H2.out]; rfl
      have hpos : 1 ≤ xss.length := by omega
      have htl := topN_lt HM.out (by omega)
      have HZ : Hid (∀ j, j < topN xss → atM xss j (xss.length - 1) = 0) := fun j hj => topN_zero hj
      have HNE := Lib.hid (topN_ne HM.out (by omega))
      obtain ⟨T, hT⟩ : ∃ T, T = topN xss := ⟨_, rfl⟩
      rw [← hT] at H1 htl HZ HNE
      clear h0 hT
      go_enter Tryz.func87, Tryz.ntmps87
      go_wp2_with fail
      refine (HCL.out _ (hx.below (by repeat (first | exact Below.refl _ _ | assumption | refine Below.alloc ?_ (by first | exact Nat.le_refl _ | (simp only [World.size_alloc, World.size_setCell, World.size_drew]; omega) | omega) _ | refine Below.setCell ?_ (by first | exact Nat.le_refl _ | (simp only [World.size_alloc, World.size_setCell, World.size_drew]; omega) | omega) _ | refine Below.drew ?_)))).mono ?_
      rintro e w1 ⟨rfl, hb⟩
      rw [HM.out]
      have b1 : Below w.heap.size w w1 := Below.trans (by repeat (first | exact Below.refl _ _ | assumption | refine Below.alloc ?_ (by first | exact Nat.le_refl _ | (simp only [World.size_alloc, World.size_setCell, World.size_drew]; omega) | omega) _ | refine Below.setCell ?_ (by first | exact Nat.le_refl _ | (simp only [World.size_alloc, World.size_setCell, World.size_drew]; omega) | omega) _ | refine Below.drew ?_)) (hb.mono (by first | (simp only [World.size_alloc, World.size_setCell, World.size_drew]; omega) | omega))
      have hc0 := (hb.cell (p := ⟨w.heap.size, 0, none⟩) (by simp)).trans (show _ = some (Value.slice a xss.length cap) by simp)
      have hcast : ((xss.length : Int) - 1) = ((xss.length - 1 : Nat) : Int) := by omega
      have hrow : ∀ (k : Nat) (W : World), k < xss.length → Below w.heap.size w W → ∃ b off b2 off2 cap', a = some ⟨b, off, none⟩ ∧ W.cell? ⟨b, off + k, none⟩ = some (.slice (some ⟨b2, off2, none⟩) xss.length cap') ∧ W.cell? ⟨b2, off2 + (xss.length - 1), none⟩ = some (.int .i64 (atM xss k (xss.length - 1))) ∧ b < W.heap.size ∧ b2 < W.heap.size := by
        intro k W hk hbW
        obtain ⟨b, off, a', cap', e1, hbl, hc, hr, _⟩ := (HX.out.below hbW).row hk
        have hl := mxB_len HM.out hk
        obtain ⟨b2, off2, e2, hbl2, hc2⟩ := hr.cell (xss.length - 1) (by omega)
        rw [hl, e2] at hc
        exact ⟨b, off, b2, off2, cap', e1, hc, hc2, hbl, hbl2⟩
      have HROW := Lib.hid hrow
      clear hb hx hrow
      go_wp2_with fail
      go_region
      all_goals
        have hdr : Below w.heap.size w (w1.drew) := b1.drew
        go_wp2_with fail
        go_loop [4] (fun i => ∃ k : Nat, k ≤ T ∧ i = .int .i64 k) (fun i => T + 1 - (intOf i).toNat)
        case atStart => exact ⟨0, Nat.zero_le _, rfl⟩
        case round =>
          obtain ⟨k, hk, rfl⟩ := hrel
          obtain ⟨b, off, b2, off2, cap', rfl, hc, hc2, hbl, hbl2⟩ := HROW.out k _ (by omega) hdr
          have k1 : (k : Int) < (xss.length : Int) := by omega
          by_cases hlt : k < T
          · have hz := HZ.out k hlt
            rw [hz] at hc2
            have hzz : ((0 : Int) == 0) = true := rfl
            clear hz
            go_wp2_with fail
            go_round
            case rel => exact ⟨k + 1, by omega, by go_num⟩
            case measure => simp [intOf]; omega
          · obtain rfl : k = T := by omega
            have hz := HNE.out
            obtain ⟨Z, hZ⟩ : ∃ Z, Z = atM xss k (xss.length - 1) := ⟨_, rfl⟩
            rw [← hZ] at hz hc2
            have hzz : (Z == 0) = false := by simp [hz]
            clear hz hZ
            go_wp2_with fail
            go_ret2
            exact ⟨ret_ib' H1.out.symm H2.out.symm, hdr⟩

theorem SumP.vn {w : World} {B n c : Nat} {a : Option Addr} {vl : List Value} {xss : List (List Int)} (h : SumP w B (.slice a n c) vl xss) : n = xss.length := by
  obtain ⟨a2, c2, e⟩ := h.form
  simp only [Value.slice.injEq] at e
  exact e.2.1

set_option maxRecDepth 100000 in
theorem numbersOf_any (s : Int) (va : Option Addr) (vc B : Nat) (vl : List Value) (xss : List (List Int)) (w : World) (hp : SumP w B (.slice va xss.length vc) vl xss) (hB : B ≤ w.heap.size) (h63 : xss.length ≤ 1048576) :
    Calls Tryz.prog 88 #[.agg #[.int .i64 s, .slice va xss.length vc]] w fun e w' => ∃ g, e = .returned (.slice (some ⟨g, 0, none⟩) xss.length xss.length) ∧ RowsP w' B (.slice (some ⟨g, 0, none⟩) xss.length xss.length) vl xss ∧ Below w.heap.size w w' := by
  obtain ⟨j0, hj0, hy0, hy1, hy2⟩ := info_parts infoRow0
  have HP := Lib.hid hp
  have hvl := hp.vlen
  clear hp
  obtain ⟨N, hN⟩ : ∃ N, N = xss.length := ⟨_, rfl⟩
  have HN := Lib.hid hN
  rw [← hN] at h63 hvl ⊢
  have HVL := Lib.hid hvl
  have HP2 : Hid (SumP w B (.slice va N vc) vl xss) := by rw [hN]; exact HP.out
  clear hN HP hvl
  go_enter Tryz.func88, Tryz.ntmps88
  go_wp2_with (
    at_make
    refine wpList_make_full _ rfl (.tmp 8) (.tmp 8) 43 rfl (w.heap.size + 1) 24 j0 (.slice none 0 0) 1 Tryz.underlying43 hj0 hy0 hy1 .i64 .i64 _ _ N rfl rfl rfl rfl (by rw [hy2]; omega) (by unfold maxLen; omega) (by simp) ?_
    intro w1 hown hgrow
    have bw1 : Below w.heap.size w w1 := Below.trans (B := w.heap.size) ((Below.refl _ _).alloc (Nat.le_refl _) _) (below_grown_none hgrow (by simp))
    have hc1 : w1.cell? ⟨w.heap.size, 1, none⟩ = some (.slice va N vc) := hgrow.cell (by simp) (by simp)
    have hz1' : w.heap.size + 1 < w1.heap.size := by
      have := (World.ownsRow.lt hown (w.heap.size + 1) (by simp [Value.ownBlock])).2
      omega)
  have HO0 : Hid (w1.ownsRow (w.heap.size + 1) 24 1 (.slice (some ⟨w.heap.size + 1, 0, none⟩) N N) N (nVal vl N 0)) := by
    rw [Hid, nVal_zero]
    simpa [Value.cells, toList_madeCells_one] using hown
  clear hown hgrow
  go_loopw [13] (fun i wr => ∃ k : Nat, k ≤ N ∧ i = .int .i64 k ∧ wr.ownsRow (w.heap.size + 1) 24 1 (.slice (some ⟨w.heap.size + 1, 0, none⟩) N N) N (nVal vl N k) ∧ Below w.heap.size w wr ∧ w.heap.size + 1 < wr.heap.size) (fun i _ => N - (intOf i).toNat)
  case atStart => exact ⟨0, Nat.zero_le _, rfl, HO0.out, bw1, hz1'⟩
  case round =>
    obtain ⟨k, hk, rfl, hown2, hb, hgz⟩ := hrel
    have hbs := hb.size
    by_cases hlt : k < N
    · have k1 : (k : Int) < (N : Int) := by omega
      have hpr := HP2.out.below hb (Nat.le_refl _)
      obtain ⟨g0, rfl, hg0, hcA, hcB⟩ := hpr.at (k := k) (by rw [← HN.out]; exact hlt)
      obtain ⟨ar, cr, er⟩ := (hpr.row k (by rw [← HN.out]; exact hlt)).form
      rw [er] at hcB
      obtain ⟨T, hT⟩ : ∃ T, T = totR (rowL xss k) := ⟨_, rfl⟩
      rw [← hT] at hcA
      have hst := (World.ownsRow.stored hown2 k (valAt vl k)).1
      rw [nVal_step hlt, er] at hst
      have hst := ownsRow_bel hst (w' := (wr.setCell ⟨w.heap.size + 1, k, none⟩ (.slice ar (rowL xss k).length cr)).alloc (.cells #[.int .i64 T, .slice ar (rowL xss k).length cr] 115)) ((Below.refl _ _).alloc (Nat.le_refl _) _) (Nat.le_refl _)
      have hcc := World.ownsRow.cellAt hown2 k (by omega)
      have hfr := World.ownsRow.frozenAt hown2 k
      have hcc' : ∃ u, wr.cell? ⟨w.heap.size + 1, k, none⟩ = some u := by
        rw [hcc]
        exact ⟨_, List.getElem?_eq_getElem (by rw [nVal_len]; omega)⟩
      obtain ⟨u, hu⟩ := hcc'
      have Hst := Lib.hid hst
      have b3 : Below w.heap.size w ((wr.setCell ⟨w.heap.size + 1, k, none⟩ (.slice ar (rowL xss k).length cr)).alloc (.cells #[.int .i64 T, .slice ar (rowL xss k).length cr] 115)) := (hb.setCell (by simp) _).alloc (by simpa using hbs) _
      clear hst hcc hown2 hpr er hT
      go_wp2_with fail
      go_roundw
      case rel => exact ⟨k + 1, by omega, by go_num, Hst.out, b3, by simp; omega⟩
      case measure => simp [intOf]; omega
    · obtain rfl : k = N := by omega
      rw [nVal_end HVL.out] at hown2
      have HO := Lib.hid hown2
      have hpr := Lib.hid (HP2.out.below hb (Nat.le_refl _))
      have HLT := Lib.hid HP2.out.blk
      clear hown2
      go_wp2_with fail
      go_ret
      refine ⟨w.heap.size + 1, rfl, ⟨⟨?_, hpr.out.row, fun i hi c hc h => ?_⟩, hpr.out.pair⟩, hb⟩
      · rw [← HN.out]
        refine ⟨HO.out.1, ?_⟩
        rcases HO.out.2 with hn | ⟨g, cap, cur, e, hb', rest⟩
        · exact .inl hn
        · exact .inr ⟨g, cap, cur, e, by omega, rest⟩
      · have := HLT.out.2 i hi c hc
        simp only [Value.ownBlock, Option.some.injEq] at h
        omega

set_option maxRecDepth 100000 in
set_option maxHeartbeats 1000000 in
theorem iShrink_any (a : Option Addr) (xss : List (List Int)) (cap : Nat) (w : World) (hx : RdC w a xss) (hs : xss.length + totS xss xss.length ≤ 1048576) :
    Calls Tryz.prog 54 #[.agg #[.slice a xss.length cap]] w fun e w' => ∃ a0 c0 vl, e = .returned (.tuple #[.agg #[.slice a0 (shL xss).length c0], .int .i64 (topV xss), .bool (topB xss)]) ∧ RowsP w' w.heap.size (.slice a0 (shL xss).length c0) vl (shL xss) ∧ Below w.heap.size w w' := by
  have hlen := hx.rd.len
  have hV := Var1.new (w.alloc (.cells #[.slice a xss.length cap] 45)) (.slice none 0 0) 45
  have hb0 : Below w.heap.size w ((w.alloc (.cells #[.slice a xss.length cap] 45)).alloc (.cells #[.slice none 0 0] 45)) := (by repeat (first | exact Below.refl _ _ | assumption | refine Below.alloc ?_ (by first | exact Nat.le_refl _ | (simp only [World.size_alloc, World.size_setCell, World.size_drew]; omega) | omega) _ | refine Below.setCell ?_ (by first | exact Nat.le_refl _ | (simp only [World.size_alloc, World.size_setCell, World.size_drew]; omega) | omega) _ | refine Below.drew ?_))
  rw [World.size_alloc] at hV
  have HCL := Lib.hid (fun W (h : RdC W a xss) => iTopMx_any a xss cap W h hs)
  cases hm : topB xss
  · have HM := Lib.hid hm
    have H1 : Hid (shL xss = []) := by simp [Hid, shL, hm]
    have H2 : Hid (topV xss = 0) := by rw [Hid, topV, hm]; rfl
    clear hm
    go_enter Tryz.func54, Tryz.ntmps54
    go_wp2_with fail
    refine (HCL.out _ (hx.below hb0)).mono ?_
    rintro e w1 ⟨rfl, hb⟩
    rw [HM.out, H2.out]
    have b1 : Below w.heap.size w w1 := hb0.trans (hb.mono (by simp; omega))
    have hV1 := hV.below hb
    have ⟨⟨zV, cV⟩, fV⟩ := hV1
    clear hb hV
    go_wp2_with fail
    have hV2 := hV1.set (.slice none 0 0)
    have b2 := b1.setCell (p := ⟨w.heap.size + 1, 0, none⟩) (by simp) (.slice none 0 0)
    refine bodyPost_ret (v := .tuple #[.agg #[.slice none 0 0], .int .i64 0, .bool false]) (by have ⟨⟨_, q1⟩, _⟩ := hV2; simp [results, Tryz.results54, go_sem, q1]) rfl ?_
    exact ⟨none, 0, [], by rw [H1.out, H2.out]; rfl, by rw [H1.out]; exact RowsP.nil _ _, b2⟩
  · have HM := Lib.hid hm
    have ⟨hmx, hpos⟩ := topB_mx hm
    have h12 := mxB_small hmx
    have HMX := Lib.hid hmx
    have htl := topN_lt hmx hpos
    have H2 : Hid (topV xss = ((topN xss : Nat) : Int)) := by rw [Hid, topV, hm]; rfl
    have HE := Lib.hid (mx_eta hmx)
    have HNB := Lib.hid (mxB_num hmx htl (j := xss.length - 1) (by omega))
    have HSH : Hid (shL xss = if totR (rowL xss (topN xss)) = 1 then sqM (shF (decF (atM xss) xss.length (topN xss)) xss.length (topN xss)) (xss.length - 1) (xss.length - 1) else sqM (decF (atM xss) xss.length (topN xss)) xss.length xss.length) := by rw [Hid, shL, if_pos hm, shF_dec]
    have HRC := Lib.hid (fun W (h : RdC W a xss) => rowsOf_any a xss cap W h hs)
    obtain ⟨T, hT⟩ : ∃ T, T = topN xss := ⟨_, rfl⟩
    have HT := Lib.hid hT
    rw [← hT] at htl H2 HSH HNB
    have HX := Lib.hid hx
    clear hm hmx hx hT hs
    go_enter Tryz.func54, Tryz.ntmps54
    go_wp2_with fail
    refine (HCL.out _ (HX.out.below hb0)).mono ?_
    rintro e w1 ⟨rfl, hb⟩
    rw [HM.out, H2.out]
    have b1 : Below w.heap.size w w1 := hb0.trans (hb.mono (by simp; omega))
    have hV1 := hV.below hb
    have hc1 := (hb.cell (p := ⟨w.heap.size, 0, none⟩) (by simp; omega)).trans (show _ = some (Value.slice a xss.length cap) by simp)
    have hz1 : w.heap.size + 2 ≤ w1.heap.size := by have := hb.size; simp at this; omega
    clear hb hV hb0 HCL
    go_wp2_with fail
    refine (HRC.out _ (HX.out.below b1)).mono ?_
    rintro e w2 ⟨s, va, vn, vc, rfl, hok, hb2⟩
    rw [HMX.out]
    obtain ⟨vl, hp⟩ := (hok HMX.out).2
    obtain rfl := hp.vn
    have b2 := b1.trans (hb2.mono b1.size)
    have hV2 := (hV1.below hb2).alloc (.cells #[.int .i64 s, .slice va xss.length vc] 108)
    have b2' := b2.alloc b2.size (.cells #[.int .i64 s, .slice va xss.length vc] 108)
    have hP2 := Box2.new w2 (.int .i64 s) (.slice va xss.length vc) 108
    have hz2 : w.heap.size + 2 ≤ w2.heap.size := by have := hb2.size; omega
    have hp2 := hp.below ((Below.refl _ _).alloc (Nat.le_refl _) (.cells #[.int .i64 s, .slice va xss.length vc] 108)) (Nat.le_refl _)
    have HNUM := Lib.hid (numbersOf_any s va vc _ vl xss (w2.alloc (.cells #[.int .i64 s, .slice va xss.length vc] 108)) hp2 (by simp; have := hb2.size; omega) (by omega))
    have HP2 := Lib.hid hp2
    have HV2 := Lib.hid hV2
    have ⟨zP2, cP2, dP2⟩ := hP2
    have HPB := Lib.hid hp.blk
    clear hb2 hok hp hV1 HRC b2 hp2 hV2 hc1
    go_wp2_with fail
    refine HNUM.out.mono ?_
    rintro e w3 ⟨g, rfl, hro, hb3⟩
    have b3 := b2'.trans (hb3.mono b2'.size)
    have hP3 := hP2.below hb3
    have HV3 := Lib.hid (HV2.out.below hb3)
    have hp3 := HP2.out.below hb3 (Nat.le_refl _)
    obtain ⟨gp, rfl, hgp, hcs, _⟩ := hp3.at (k := T) htl
    have hvT := hp3.apart T htl
    have hro2 := hro.mono (B' := w.heap.size + 2) hz1
    obtain ⟨g6, c6, e6, hg6, hg7, hc6, hf6, hnew⟩ := hro2.num (i := T) (j := xss.length - 1) htl (by rw [mxB_len HMX.out htl]; omega)
    have hgne : gp ≠ g6 := fun h => hvT g6 (by rw [e6]; rfl) (by rw [h]; rfl)
    obtain ⟨g4, e4, hg4, hg5, hc4, hf4⟩ := hro2.outer (k := T) htl
    simp only [Option.some.injEq, Addr.mk.injEq, and_true] at e4
    subst e4
    have hg7ne : g6 ≠ w2.heap.size := fun h => by
      have h1 := HPB.out.2 T htl g6 (by rw [e6]; rfl)
      omega
    rw [e6, mxB_len HMX.out htl] at hc4
    have hset := hnew (atM xss T (xss.length - 1) - 1)
    have hmat : setM xss T (xss.length - 1) (atM xss T (xss.length - 1) - 1) = sqM (decF (atM xss) xss.length T) xss.length xss.length := by
      have h := setM_sq (f := atM xss) (n := xss.length) (m := xss.length) (i := T) (j := xss.length - 1) (x := atM xss T (xss.length - 1) - 1) htl (by omega)
      rw [← HE.out] at h
      rw [h]
      exact sqM_congr (fun p hp q hq => by rw [decF])
    rw [hmat] at hset
    have b4 := b3.setCell (p := ⟨g6, xss.length - 1, none⟩) (show w.heap.size ≤ g6 by omega) (.int .i64 (atM xss T (xss.length - 1) - 1))
    have hV4 := HV3.out.other (p := ⟨g6, xss.length - 1, none⟩) (.int .i64 (atM xss T (xss.length - 1) - 1)) (show w.heap.size + 1 ≠ g6 by omega)
    have hP4 := hP3.set (p := ⟨g6, xss.length - 1, none⟩) (.int .i64 (atM xss T (xss.length - 1) - 1)) (show w2.heap.size ≠ g6 by omega)
    have ⟨zP3, cP3, dP3⟩ := hP3
    have ⟨hz0, hz9⟩ := HNB.out
    obtain ⟨Z, hZ⟩ : ∃ Z, Z = atM xss T (xss.length - 1) := ⟨_, rfl⟩
    rw [← hZ] at hc6 hset b4 hV4 hP4 hz0 hz9
    obtain ⟨S, hS⟩ : ∃ S, S = totR (rowL xss T) := ⟨_, rfl⟩
    rw [← hS] at hcs HSH
    obtain ⟨N, hN⟩ : ∃ N, N = xss.length := ⟨_, rfl⟩
    have HN := Lib.hid hN
    rw [← hN] at hlen h12 htl hpos hc6 hf6 hc4 hset b4 hV4 hP4 HSH dP3 ⊢
    have hcast : ((N : Int) - 1) = ((N - 1 : Nat) : Int) := by omega
    have hN1 : N - 1 < N := by omega
    have HS4 := Lib.hid hset
    have HV4 := Lib.hid hV4
    have ⟨zP4, cP4, dP4⟩ := hP4
    have hcs4 : (w3.setCell ⟨g6, N - 1, none⟩ (.int .i64 (Z - 1))).cell? ⟨gp, T * 2, none⟩ = some (.int .i64 S) := (World.cell?_setCell_other _ _ _ _ (by intro h9; exact hgne (congrArg Addr.block h9).symm)).trans hcs
    clear hro hro2 hnew hvT hp3 hP3 hb3 HNUM hP2 hset hV4 e6 hmat hZ hS hN cP2 dP2 hP4
    have hws : w.heap.size + 2 ≤ (w3.setCell ⟨g6, N - 1, none⟩ (.int .i64 (Z - 1))).heap.size := by have := b3.size; simp; omega
    by_cases hS1 : S = 1
    · have hSS : (S == 1) = true := by simp [hS1]
      rw [if_pos hS1] at HSH
      have HTK := Lib.hid (takeOut_any g N (w.heap.size + 2) N T vl (decF (atM xss) N T) _ HS4.out htl hws h12 (Nat.le_refl _) (by omega))
      clear hS1
      go_wp2_with fail
      refine HTK.out.mono ?_
      rintro e w5 ⟨ul, rfl, hro5, hb5⟩
      have b5 := b4.trans (hb5.mono (by omega : w.heap.size ≤ w.heap.size + 2))
      have hV5 : Var1 w5 (w.heap.size + 1) (.slice none 0 0) := ⟨⟨by have := hb5.size; omega, (hb5.cell (p := ⟨w.heap.size + 1, 0, none⟩) (show w.heap.size + 1 < w.heap.size + 2 by omega)).trans HV4.out.1.2⟩, (hb5.frozen (p := ⟨w.heap.size + 1, 0, none⟩) (show w.heap.size + 1 < w.heap.size + 2 by omega)).trans HV4.out.2⟩
      have ⟨⟨zV5, cV5⟩, fV5⟩ := hV5
      have HR5 := Lib.hid hro5
      have HV5 := Lib.hid hV5
      clear hro5 hb5 hV5 HTK
      go_wp2_with fail
      have hV6 := HV5.out.set (.slice (some ⟨g, 0, none⟩) (N - 1) N)
      have b6 := b5.setCell (p := ⟨w.heap.size + 1, 0, none⟩) (by simp) (.slice (some ⟨g, 0, none⟩) (N - 1) N)
      refine bodyPost_ret (v := .tuple #[.agg #[.slice (some ⟨g, 0, none⟩) (N - 1) N], .int .i64 (T : Int), .bool true]) (by have ⟨⟨_, q1⟩, _⟩ := hV6; simp [results, Tryz.results54, go_sem, q1]) rfl ?_
      exact ⟨some ⟨g, 0, none⟩, N, ul, by rw [HSH.out, H2.out, sqM_len], by rw [HSH.out, sqM_len]; exact (HR5.out.setBelow (show w.heap.size + 1 < w.heap.size + 2 by omega) _).mono (by omega), b6⟩
    · have hSS : (S == 1) = false := by simp [hS1]
      rw [if_neg hS1] at HSH
      have ⟨⟨zV5, cV5⟩, fV5⟩ := HV4.out
      clear hS1
      go_wp2_with fail
      have hV6 := HV4.out.set (.slice (some ⟨g, 0, none⟩) N N)
      have b6 := b4.setCell (p := ⟨w.heap.size + 1, 0, none⟩) (by simp) (.slice (some ⟨g, 0, none⟩) N N)
      refine bodyPost_ret (v := .tuple #[.agg #[.slice (some ⟨g, 0, none⟩) N N], .int .i64 (T : Int), .bool true]) (by have ⟨⟨_, q1⟩, _⟩ := hV6; simp [results, Tryz.results54, go_sem, q1]) rfl ?_
      exact ⟨some ⟨g, 0, none⟩, N, vl, by rw [HSH.out, H2.out, sqM_len], by rw [HSH.out, sqM_len]; exact (HS4.out.setBelow (show w.heap.size + 1 < w.heap.size + 2 by omega) _).mono (by omega), b6⟩

def smV (xss : List (List Int)) : Int := if mxB xss then matS xss xss.length else 0

theorem iSumMx_any (a : Option Addr) (xss : List (List Int)) (cap : Nat) (w : World) (hx : RdC w a xss) (hs : xss.length + totS xss xss.length ≤ 1048576) :
    Calls Tryz.prog 53 #[.agg #[.slice a xss.length cap]] w fun e w' => e = .returned (.tuple #[.int .i64 (smV xss), .bool (mxB xss)]) ∧ Below w.heap.size w w' := by
  have hlen := hx.rd.len
  have HCL := Lib.hid (fun W (h : RdC W a xss) => rowsOf_any a xss cap W h hs)
  cases hm : mxB xss
  · have HM := Lib.hid hm
    have H1 : Hid (smV xss = 0) := by simp [Hid, smV, hm]
    clear hm
    go_enter Tryz.func53, Tryz.ntmps53
    go_wp2_with fail
    refine (HCL.out _ (hx.below (by repeat (first | exact Below.refl _ _ | assumption | refine Below.alloc ?_ (by first | exact Nat.le_refl _ | (simp only [World.size_alloc, World.size_setCell, World.size_drew]; omega) | omega) _ | refine Below.setCell ?_ (by first | exact Nat.le_refl _ | (simp only [World.size_alloc, World.size_setCell, World.size_drew]; omega) | omega) _ | refine Below.drew ?_)))).mono ?_
    rintro e w1 ⟨s, va, vn, vc, rfl, _, hb⟩
    rw [HM.out]
    have b1 : Below w.heap.size w w1 := Below.trans (by repeat (first | exact Below.refl _ _ | assumption | refine Below.alloc ?_ (by first | exact Nat.le_refl _ | (simp only [World.size_alloc, World.size_setCell, World.size_drew]; omega) | omega) _ | refine Below.setCell ?_ (by first | exact Nat.le_refl _ | (simp only [World.size_alloc, World.size_setCell, World.size_drew]; omega) | omega) _ | refine Below.drew ?_)) (hb.mono (by first | (simp only [World.size_alloc, World.size_setCell, World.size_drew]; omega) | omega))
    clear hb
    go_wp2_with fail
    go_ret2
    exact ⟨ret_ib' H1.out.symm rfl, b1.alloc b1.size _⟩
  · have HM := Lib.hid hm
    have H1 : Hid (smV xss = matS xss xss.length) := by simp [Hid, smV, hm]
    clear hm
    go_enter Tryz.func53, Tryz.ntmps53
    go_wp2_with fail
    refine (HCL.out _ (hx.below (by repeat (first | exact Below.refl _ _ | assumption | refine Below.alloc ?_ (by first | exact Nat.le_refl _ | (simp only [World.size_alloc, World.size_setCell, World.size_drew]; omega) | omega) _ | refine Below.setCell ?_ (by first | exact Nat.le_refl _ | (simp only [World.size_alloc, World.size_setCell, World.size_drew]; omega) | omega) _ | refine Below.drew ?_)))).mono ?_
    rintro e w1 ⟨s, va, vn, vc, rfl, hok, hb⟩
    have hok2 := Lib.hid (hok HM.out).1
    rw [HM.out]
    have b1 : Below w.heap.size w w1 := Below.trans (by repeat (first | exact Below.refl _ _ | assumption | refine Below.alloc ?_ (by first | exact Nat.le_refl _ | (simp only [World.size_alloc, World.size_setCell, World.size_drew]; omega) | omega) _ | refine Below.setCell ?_ (by first | exact Nat.le_refl _ | (simp only [World.size_alloc, World.size_setCell, World.size_drew]; omega) | omega) _ | refine Below.drew ?_)) (hb.mono (by first | (simp only [World.size_alloc, World.size_setCell, World.size_drew]; omega) | omega))
    clear hb hok
    go_wp2_with fail
    go_ret2
    exact ⟨ret_ib' (by rw [H1.out, hok2.out]) rfl, b1.alloc b1.size _⟩

theorem wpList_append_rd {w : World} {ops : Array Oper} {rest : List Oper} {o : Oper} {a : Act} {Q : Exit → Act → World → Prop} (hgd : o.guard = none) (s x : Operand)
    (ho : o.op = .call { callee := .builtin .append, args := #[s, x], argTypes := #[24, 24] })
    (base : Nat) (v : Value) (zs : List Int) (hs : a.eval s = v) (hown : OwnI w base v zs) (ad : Option Addr) (xs : List Int) (cap : Nat) (hx : a.eval x = .slice ad xs.length cap) (hr : Rd w ad xs)
    (hsm : zs.length + xs.length ≤ 1000) (hbase : base ≤ w.heap.size)
    (h : ∀ v' w', OwnI w' base v' (zs ++ xs) → w.grownBy w' v.ownBlock → wpList Tryz.prog ops Q rest (a.put o.dst v') w') : wpList Tryz.prog ops Q (o :: rest) a w := by
  obtain ⟨i0, hi, hz0, hz1, hz2⟩ := info_parts infoInt
  cases ad with
  | none =>
    have h0 : xs = [] := by
      rcases xs with _ | ⟨y, t⟩
      · rfl
      · obtain ⟨b, off, e, _⟩ := hr.cell 0 (by simp)
        cases e
    subst h0
    exact wpList_append_none hgd s x 24 ho base 3 i0 1 Tryz.underlying24 hi v zs.length cap (zs.map (Value.int .i64)) hs hown hx (h v w (by rw [List.append_nil]; exact hown) (World.grownBy.refl _ _))
  | some ad =>
    refine wpList_append_own _ hgd s x 24 ho base 3 i0 (.int .i64 0) 1 8 Tryz.underlying24 hi hz0 hz1 hz2 rfl (by decide) v zs.length (zs.map (Value.int .i64)) hs hown ad xs.length cap (xs.map (Value.int .i64)) hx (by simp) (rd_news hr) (ints_one xs) (by unfold maxLen; omega) (by omega) hbase ?_
    intro v' w' h1 h2 _
    refine h v' w' ?_ h2
    unfold OwnI
    rw [List.length_append, List.map_append]
    exact h1

theorem asN_pos {xss : List (List Int)} (h : 0 < asN xss) : 0 < xss.length := by
  apply Nat.pos_of_ne_zero
  intro e
  have h1 : xss = [] := List.eq_nil_of_length_eq_zero e
  rw [h1] at h
  exact absurd h (by decide)
theorem rep_set (q : Nat) (x : Int) (l : List Int) : (List.replicate (q+1) (0:Int) ++ l).set q x = List.replicate q 0 ++ x :: l := by
  rw [List.replicate_succ', List.append_assoc, List.set_append_right _ _ (by simp)]
  simp
set_option maxRecDepth 100000 in
set_option maxHeartbeats 2000000 in
theorem iAscM_any (a : Option Addr) (xss : List (List Int)) (cap : Nat) (w : World) (hx : RdC w a xss) (hs : xss.length + totS xss xss.length ≤ 1048576) :
    Calls Tryz.prog 24 #[.agg #[.slice a xss.length cap]] w fun e w' => ∃ a0 c0, e = .returned (.tuple #[.slice a0 (amL xss).length c0, .bool (mxB xss)]) ∧ OwnI w' w.heap.size (.slice a0 (amL xss).length c0) (amL xss) ∧ Below w.heap.size w w' := by
  have hV := Var1.new w (.slice a xss.length cap) 45
  have hb0 : Below w.heap.size w (w.alloc (.cells #[.slice a xss.length cap] 45)) := (by repeat (first | exact Below.refl _ _ | assumption | refine Below.alloc ?_ (by first | exact Nat.le_refl _ | (simp only [World.size_alloc, World.size_setCell, World.size_drew]; omega) | omega) _ | refine Below.setCell ?_ (by first | exact Nat.le_refl _ | (simp only [World.size_alloc, World.size_setCell, World.size_drew]; omega) | omega) _ | refine Below.drew ?_))
  have ⟨⟨zV, cV⟩, fV⟩ := hV
  have HCL := Lib.hid (fun W (h : RdC W a xss) => iSumMx_any a xss cap W h hs)
  cases hm : mxB xss
  · have HM := Lib.hid hm
    have H1 : Hid (amL xss = []) := by simp [Hid, amL, hm]
    clear hm
    go_enter Tryz.func24, Tryz.ntmps24
    go_wp2_with fail
    refine (HCL.out _ (hx.below hb0)).mono ?_
    rintro e w1 ⟨rfl, hb⟩
    rw [HM.out]
    have b1 : Below w.heap.size w w1 := hb0.trans (hb.mono (by simp))
    clear hb
    go_wp2_with fail
    refine bodyPost_ret (v := .tuple #[.slice none 0 0, .bool false]) (by simp [results, Tryz.results24, go_sem]) rfl ?_
    exact ⟨none, 0, by rw [H1.out]; rfl, by rw [H1.out]; exact OwnI.nil _ _, b1⟩
  · have HM := Lib.hid hm
    have H1 : Hid (amL xss = asL xss) := by simp [Hid, amL, hm]
    have h12 : asN xss ≤ 12 := by have := of_mx hm; rw [asN]; omega
    have hlenL : (asL xss).length = asN xss := asF_len _ _
    have HL : Hid ((asL xss).length = asN xss) := hlenL
    have HS : Hid (smV xss = ((asN xss : Nat) : Int)) := by
      rw [Hid, smV, if_pos hm, asN]
      have := matS_nn (xss := xss) (k := xss.length) (fun j hj => by have := (adB_row (mxB_iff.1 hm).1 hj).1; omega)
      omega
    obtain ⟨i0, hi, hz0, hz1, hz2⟩ := info_parts infoInt
    obtain ⟨N, hN⟩ : ∃ N, N = asN xss := ⟨_, rfl⟩
    have HN := Lib.hid hN
    rw [← hN] at h12 HS HL
    clear hm hN hlenL
    go_enter Tryz.func24, Tryz.ntmps24
    go_wp2_with fail
    refine (HCL.out _ (hx.below hb0)).mono ?_
    rintro e w1 ⟨rfl, hb⟩
    rw [HM.out, HS.out]
    have b1 : Below w.heap.size w w1 := hb0.trans (hb.mono (by simp))
    have hV1 := hV.below hb
    have hz1' : w.heap.size + 1 ≤ w1.heap.size := by have := hb.size; simpa using this
    have ⟨⟨zV1, cV1⟩, fV1⟩ := hV1
    clear hb hV zV cV fV hb0 HCL
    go_wp2_with (at_make; refine wpList_make_full _ rfl (.tmp 15) (.tmp 15) 24 rfl (w.heap.size + 1) 3 i0 (.int .i64 0) 1 Tryz.underlying24 hi hz0 hz1 .i64 .i64 _ _ N rfl rfl rfl rfl (by rw [hz2]; omega) (by unfold maxLen; omega) hz1' ?_; intro w3 hown hgrow; have hV3 := hV1.kept hgrow (by simp); have b3 : Below w.heap.size w w3 := b1.trans (below_grown_none hgrow b1.size); have HO : Hid (OwnI w3 (w.heap.size + 1) (.slice (some ⟨w1.heap.size, 0, none⟩) N N) (List.replicate N 0)) := by (unfold Hid OwnI; rw [List.length_replicate]; simpa [Value.cells, toList_madeCells_one] using hown))
    have hG1 : w.heap.size + 1 ≤ w1.heap.size := hz1'
    have hx3 := hx.below b3
    clear hown hgrow hV1 zV1 cV1 fV1 b1 hz1' hx
    go_loopw [7] (fun i wr => ∃ (k : Nat) (cur : List (List Int)) (ac : Option Addr) (cc : Nat) (lst : List Int), i = .int .i64 ((k : Int) - 1) ∧ mxB cur = true ∧ cur.length + totS cur cur.length ≤ 1048576 ∧ Hid (asN cur = k) ∧ k + lst.length = N ∧ Hid (asF (asN cur) cur ++ lst = asL xss) ∧ OwnI wr (w.heap.size + 1) (.slice (some ⟨w1.heap.size, 0, none⟩) N N) (List.replicate k 0 ++ lst) ∧ Var1 wr w.heap.size (.slice ac cur.length cc) ∧ RdC wr ac cur ∧ Below w.heap.size w wr) (fun i _ => (intOf i + 1).toNat)
    case atStart => exact ⟨N, xss, a, cap, [], by go_num, HM.out, hs, HN.out.symm, by simp, by rw [Hid, List.append_nil]; rfl, by rw [List.append_nil]; exact HO.out, hV3, hx3, b3⟩
    case round =>
      clear hV3 b3 HO hs hx3
      obtain ⟨k, cur, ac, cc, lst, rfl, hmc, hsz, hk, hlen, heq, hown, hV, hr, hb⟩ := hrel
      have ⟨⟨zV, cV⟩, fV⟩ := hV
      have HO := Lib.hid hown
      cases k with
      | succ q =>
        have e1 : (((q + 1 : Nat) : Int) - 1) = (q : Int) := by omega
        rw [e1]
        have HT := Lib.hid (topB_of hmc (asN_pos (by rw [hk.out]; omega)))
        have HSH := Lib.hid (iShrink_any ac cur cc wr hr hsz)
        have HMC := Lib.hid hmc
        have HV := Lib.hid hV
        have hlt := (World.ownsRow.lt hown w1.heap.size (by simp [Value.ownBlock])).2
        clear hmc hsz hown hV hr
        go_wp2_with fail
        refine HSH.out.mono ?_
        rintro e w2 ⟨a0, c0, vl, rfl, hP, hb2⟩
        have hV2 := HV.out.below hb2
        have ⟨⟨zV2, cV2⟩, fV2⟩ := hV2
        have hV3 := hV2.set (.slice a0 (shL cur).length c0)
        have hO3 := (HO.out.below hb2 (Nat.le_refl _)).setBelow (p := ⟨w.heap.size, 0, none⟩) (by simp) (.slice a0 (shL cur).length c0)
        have hP3 := hP.setBelow (p := ⟨w.heap.size, 0, none⟩) zV (.slice a0 (shL cur).length c0)
        have ⟨hcc, hfr⟩ := (HO.out.below hb2 (Nat.le_refl _)).at' (i := q) (by simp; omega) (by simp; omega)
        have hput := (hO3.put (by simp; omega) q (topV cur)).1
        rw [rep_set] at hput
        have HPUT := Lib.hid hput
        have HV4 := Lib.hid (hV3.other (p := ⟨w1.heap.size, q, none⟩) (.int .i64 (topV cur)) (by simp; omega))
        have HP4 := Lib.hid (hP3.setBelow (p := ⟨w1.heap.size, q, none⟩) hlt (.int .i64 (topV cur)))
        have HB4 := Lib.hid (((hb.trans (hb2.mono hb.size)).setCell (p := ⟨w.heap.size, 0, none⟩) (by simp) (.slice a0 (shL cur).length c0)).setCell (p := ⟨w1.heap.size, q, none⟩) (by simp; omega) (.int .i64 (topV cur)))
        have hqN : q < N := by omega
        have hqN2 : (q : Int) < (N : Int) := by omega
        clear hV3 hO3 hP3 hput hP
        go_wp2_with fail
        go_roundw
        case rel => exact ⟨q, shL cur, a0, c0, topV cur :: lst, by go_num, (sh_mx HT.out).1, shL_len _, by have h1 := asN_step HT.out; have h2 := hk.out; unfold Hid; omega, by simp; omega, by rw [Hid, ← asF_step HT.out]; exact heq.out, HPUT.out, HV4.out, HP4.out.rdC, HB4.out⟩
        case measure => simp [intOf]
      | zero =>
        have hL : asL xss = lst := by
          rw [← heq.out, hk.out]; rfl
        have HL2 := Lib.hid hL
        have HLN : Hid (lst.length = N) := by unfold Hid; omega
        clear heq hr hmc hL
        go_wp2_with fail
        refine bodyPost_ret (v := .tuple #[.slice (some ⟨w1.heap.size, 0, none⟩) N N, .bool true]) (by simp [results, Tryz.results24, go_sem]) rfl ?_
        exact ⟨some ⟨w1.heap.size, 0, none⟩, N, by rw [H1.out, HL2.out, HLN.out], by rw [H1.out, HL2.out, HLN.out]; have h := HO.out.mono (B' := w.heap.size) (Nat.le_succ _); simpa using h, hb⟩

/-- what a call hands back that makes a list -/
def GotI (w : World) (ys : List Int) (ok : Bool) (e : Ending) (w' : World) : Prop :=
  ∃ a cap, e = .returned (.tuple #[.slice a ys.length cap, .bool ok]) ∧ OwnI w' w.heap.size (.slice a ys.length cap) ys ∧ Below w.heap.size w w'
theorem gotI_no {w w' : World} {ys : List Int} {ok : Bool} (h1 : ys = []) (h2 : ok = false) (hb : Below w.heap.size w w') : GotI w ys ok (.returned (.tuple #[.slice none 0 0, .bool false])) w' :=
  ⟨none, 0, by rw [h1, h2]; rfl, by rw [h1]; exact OwnI.nil _ _, hb⟩

def aooL (n : Int) (xs : List Int) : List Int := if isIv n xs then amL (moL n xs) else []
theorem aooL_len (n : Int) (xs : List Int) : (aooL n xs).length ≤ 1048576 := by
  unfold aooL
  split
  · exact amL_len _
  · simp

theorem iAscOrd_any (n : Int) (a : Option Addr) (xs : List Int) (cap : Nat) (w : World) (hn : -9223372036854775808 ≤ n ∧ n ≤ 9223372036854775807) (hx : Rd w a xs) :
    Calls Tryz.prog 18 #[.agg #[.int .i64 n, .slice a xs.length cap]] w (GotI w (aooL n xs) (isIv n xs)) := by
  have hlen := hx.len
  obtain ⟨W0, hW0⟩ : ∃ x : World, x = w.alloc (.cells #[.int .i64 n, .slice a xs.length cap] 31) := ⟨_, rfl⟩
  have bw0 : Below w.heap.size w W0 := by rw [hW0]; exact (Below.refl _ _).alloc (Nat.le_refl _) _
  have B0 : Box2 W0 w.heap.size (.int .i64 n) (.slice a xs.length cap) := by rw [hW0]; exact Box2.new w _ _ _
  have hx0 := hx.below bw0
  obtain ⟨g0, hg0⟩ : ∃ g, g = w.heap.size := ⟨_, rfl⟩
  have HC := Lib.hid (fun W (h : Rd W a xs) => iMxOrd_any n a xs cap W hn h)
  have HSZ := Lib.hid (moL_len n xs)
  cases hm : isIv n xs
  · have HL : Hid (aooL n xs = []) := by simp [Hid, aooL, hm]
    have HML : Hid (moL n xs = []) := by simp [Hid, moL, hm]
    rw [hm, HML.out] at HC
    clear hm hx
    go_enter Tryz.func18, Tryz.ntmps18
    go_wp2_with fail
    rw [← hW0]
    rw [← hg0] at B0 ⊢
    have ⟨zB0, cB0, dB0⟩ := B0
    clear hg0 hW0
    go_wp2_with fail
    refine (HC.out _ hx0).mono ?_
    rintro e w1 ⟨a1, c1, vl, rfl, hro, hb⟩
    have b1 := bw0.trans (hb.mono bw0.size)
    have b2 := b1.alloc b1.size (.cells #[.slice a1 ([] : List (List Int)).length c1] 45)
    clear cB0 dB0 hro
    go_wp2_with fail
    refine bodyPost_ret (v := .tuple #[.slice none 0 0, .bool false]) (by simp [results, Tryz.results18, go_sem]) rfl ?_
    exact gotI_no HL.out rfl b2
  · have HG := Lib.hid (mo_good hm)
    have HL : Hid (aooL n xs = amL (moL n xs)) := by rw [Hid, aooL, if_pos hm]
    rw [hm] at HC
    have HA := Lib.hid (fun W a0 c0 (h : RdC W a0 (moL n xs)) => iAscM_any a0 (moL n xs) c0 W h HSZ.out)
    rw [HG.out] at HA
    obtain ⟨L, hL⟩ : ∃ L, L = moL n xs := ⟨_, rfl⟩
    rw [← hL] at HC HA HL
    clear hm hx hL HSZ HG
    go_enter Tryz.func18, Tryz.ntmps18
    go_wp2_with fail
    rw [← hW0]
    rw [← hg0] at B0 ⊢
    have ⟨zB0, cB0, dB0⟩ := B0
    clear hg0 hW0
    go_wp2_with fail
    refine (HC.out _ hx0).mono ?_
    rintro e w1 ⟨a1, c1, vl, rfl, hro, hb⟩
    have b1 := bw0.trans (hb.mono bw0.size)
    have b2 := b1.alloc b1.size (.cells #[.slice a1 L.length c1] 45)
    have hrc := hro.rdC.below (show Below w1.heap.size w1 (w1.alloc (.cells #[.slice a1 L.length c1] 45)) from (Below.refl _ _).alloc (Nat.le_refl _) _)
    have HAA := Lib.hid (HA.out _ a1 c1 hrc)
    clear cB0 dB0 hro hrc
    go_wp2_with fail
    refine HAA.out.mono ?_
    rintro e w3 ⟨a3, c3, rfl, ho3, hb3⟩
    go_wp2_with fail
    refine bodyPost_ret (v := .tuple #[.slice a3 (amL L).length c3, .bool true]) (by simp [results, Tryz.results18, go_sem]) rfl ?_
    exact ⟨a3, c3, by rw [HL.out], by rw [HL.out]; exact ho3.mono b2.size, b2.trans (hb3.mono b2.size)⟩

/-- the intervals of which the first q have been opened -/
def mixV (cs : List Int) (m k : Int) (n q : Nat) : List Int := prs (fun j => if j < q then opnL (lft cs j) m else lft cs j) (fun j => if j < q then opnR (lft cs j) (rgt cs j) m k else rgt cs j) n
theorem mixV_len (cs : List Int) (m k : Int) (n q : Nat) : (mixV cs m k n q).length = n * 2 := prs_len _ _ _
theorem mixV_zero {cs : List Int} {m k : Int} {n : Nat} (h : cs.length = n * 2) : mixV cs m k n 0 = cs := by
  apply nth_ext' (by rw [mixV_len, h])
  intro i hi
  rw [mixV_len] at hi
  rw [mixV, prs_nth _ _ hi]
  simp only [Nat.not_lt_zero, if_false, lft, rgt]
  split <;> (congr 1; omega)
theorem mixV_all (cs : List Int) (m k : Int) (n : Nat) : mixV cs m k n n = opnV cs m k n := by
  apply nth_ext' (by rw [mixV_len, opnV, prs_len])
  intro i hi
  rw [mixV_len] at hi
  rw [mixV, opnV, prs_nth _ _ hi, prs_nth _ _ hi]
  have : i / 2 < n := by omega
  simp only [this, if_true]
theorem mixV_lft {cs : List Int} {m k : Int} {n q j : Nat} (hj : j < n) (hq : q ≤ j) : lft (mixV cs m k n q) j = lft cs j := by
  rw [mixV, prs_lft _ _ hj, if_neg (by omega)]
theorem mixV_rgt {cs : List Int} {m k : Int} {n q j : Nat} (hj : j < n) (hq : q ≤ j) : rgt (mixV cs m k n q) j = rgt cs j := by
  rw [mixV, prs_rgt _ _ hj, if_neg (by omega)]
theorem mixV_next {cs : List Int} {m k : Int} {n q : Nat} (hq : q < n) : ((mixV cs m k n q).set (q * 2) (opnL (lft cs q) m)).set (q * 2 + 1) (opnR (lft cs q) (rgt cs q) m k) = mixV cs m k n (q+1) := by
  apply nth_ext' (by rw [List.length_set, List.length_set, mixV_len, mixV_len])
  intro i hi
  rw [List.length_set, List.length_set, mixV_len] at hi
  rw [nth_set' (by rw [List.length_set, mixV_len]; omega), nth_set' (by rw [mixV_len]; omega), mixV, mixV, prs_nth _ _ hi, prs_nth _ _ hi]
  by_cases e1 : q * 2 + 1 = i
  · subst e1
    rw [if_pos rfl, if_neg (by omega), show (q * 2 + 1) / 2 = q by omega, if_pos (by omega)]
  · rw [if_neg e1]
    by_cases e2 : q * 2 = i
    · subst e2
      rw [if_pos rfl, if_pos (by omega), show q * 2 / 2 = q by omega, if_pos (by omega)]
    · rw [if_neg e2]
      by_cases e3 : i / 2 < q
      · simp only [e3, show i / 2 < q + 1 by omega, if_true]
      · simp only [e3, show ¬ i / 2 < q + 1 by omega, if_false]
theorem elems_full : ∀ K : Fin 11, (elems (2 ^ K.val - 1)).length = K.val := by decide +kernel

set_option maxHeartbeats 2000000 in
theorem openAt_any (l r m k : Int) (w : World) (hl : 0 ≤ l ∧ l ≤ 20) (hr : 0 ≤ r ∧ r ≤ 20) (hm : 0 ≤ m ∧ m ≤ 20) (hk : 0 ≤ k ∧ k ≤ 20) :
    Calls Tryz.prog 69 #[.agg #[.int .i64 l, .int .i64 r], .int .i64 m, .int .i64 k] w fun e w' => e = .returned (.agg #[.int .i64 (opnL l m), .int .i64 (opnR l r m k)]) ∧ Below w.heap.size w w' := by
  by_cases h1 : m ≤ l
  · have HL : Hid (opnL l m = l + 1) := by rw [Hid, opnL, if_pos h1]
    have h4 : ¬ l < m := by omega
    by_cases h2 : m ≤ r
    · have HR : Hid (opnR l r m k = r + 1) := by rw [Hid, opnR, if_pos h2, if_neg (by omega)]
      by_cases h3 : r = k - 1
      all_goals
        first | (have hq : (r == k - 1) = true := by simp only [beq_iff_eq]; exact h3) | (have hq : (r == k - 1) = false := by rw [beq_eq_false_iff_ne]; exact h3)
        clear h3
        go_enter Tryz.func69, Tryz.ntmps69
        go_wp2_with fail
        refine bodyPost_ret (v := .agg #[.int .i64 (l + 1), .int .i64 (r + 1)]) (by simp [results, Tryz.results69, go_sem]) rfl ?_
        exact ⟨by rw [HL.out, HR.out], (by repeat (first | exact Below.refl _ _ | assumption | refine Below.alloc ?_ (by first | exact Nat.le_refl _ | (simp only [World.size_alloc, World.size_setCell, World.size_drew]; omega) | omega) _ | refine Below.setCell ?_ (by first | exact Nat.le_refl _ | (simp only [World.size_alloc, World.size_setCell, World.size_drew]; omega) | omega) _ | refine Below.drew ?_))⟩
    · have HR : Hid (opnR l r m k = r) := by rw [Hid, opnR, if_neg h2]
      by_cases h3 : r = k - 1
      all_goals
        first | (have hq : (r == k - 1) = true := by simp only [beq_iff_eq]; exact h3) | (have hq : (r == k - 1) = false := by rw [beq_eq_false_iff_ne]; exact h3)
        clear h3
        go_enter Tryz.func69, Tryz.ntmps69
        go_wp2_with fail
        refine bodyPost_ret (v := .agg #[.int .i64 (l + 1), .int .i64 r]) (by simp [results, Tryz.results69, go_sem]) rfl ?_
        exact ⟨by rw [HL.out, HR.out], (by repeat (first | exact Below.refl _ _ | assumption | refine Below.alloc ?_ (by first | exact Nat.le_refl _ | (simp only [World.size_alloc, World.size_setCell, World.size_drew]; omega) | omega) _ | refine Below.setCell ?_ (by first | exact Nat.le_refl _ | (simp only [World.size_alloc, World.size_setCell, World.size_drew]; omega) | omega) _ | refine Below.drew ?_))⟩
  · have HL : Hid (opnL l m = l) := by rw [Hid, opnL, if_neg h1]
    have h4 : l < m := by omega
    by_cases h2 : m ≤ r
    · by_cases h3 : r = k - 1
      · have HR : Hid (opnR l r m k = m) := by rw [Hid, opnR, if_pos h2, if_pos ⟨h3, h4⟩]
        have hq : (r == k - 1) = true := by simp [h3]
        clear h3
        go_enter Tryz.func69, Tryz.ntmps69
        go_wp2_with fail
        refine bodyPost_ret (v := .agg #[.int .i64 l, .int .i64 m]) (by simp [results, Tryz.results69, go_sem]) rfl ?_
        exact ⟨by rw [HL.out, HR.out], (by repeat (first | exact Below.refl _ _ | assumption | refine Below.alloc ?_ (by first | exact Nat.le_refl _ | (simp only [World.size_alloc, World.size_setCell, World.size_drew]; omega) | omega) _ | refine Below.setCell ?_ (by first | exact Nat.le_refl _ | (simp only [World.size_alloc, World.size_setCell, World.size_drew]; omega) | omega) _ | refine Below.drew ?_))⟩
      · have HR : Hid (opnR l r m k = r + 1) := by rw [Hid, opnR, if_pos h2, if_neg (by omega)]
        have hq : (r == k - 1) = false := by simp [h3]
        clear h3
        go_enter Tryz.func69, Tryz.ntmps69
        go_wp2_with fail
        refine bodyPost_ret (v := .agg #[.int .i64 l, .int .i64 (r + 1)]) (by simp [results, Tryz.results69, go_sem]) rfl ?_
        exact ⟨by rw [HL.out, HR.out], (by repeat (first | exact Below.refl _ _ | assumption | refine Below.alloc ?_ (by first | exact Nat.le_refl _ | (simp only [World.size_alloc, World.size_setCell, World.size_drew]; omega) | omega) _ | refine Below.setCell ?_ (by first | exact Nat.le_refl _ | (simp only [World.size_alloc, World.size_setCell, World.size_drew]; omega) | omega) _ | refine Below.drew ?_))⟩
    · have HR : Hid (opnR l r m k = r) := by rw [Hid, opnR, if_neg h2]
      by_cases h3 : r = k - 1
      all_goals
        first | (have hq : (r == k - 1) = true := by simp only [beq_iff_eq]; exact h3) | (have hq : (r == k - 1) = false := by rw [beq_eq_false_iff_ne]; exact h3)
        clear h3
        go_enter Tryz.func69, Tryz.ntmps69
        go_wp2_with fail
        refine bodyPost_ret (v := .agg #[.int .i64 l, .int .i64 r]) (by simp [results, Tryz.results69, go_sem]) rfl ?_
        exact ⟨by rw [HL.out, HR.out], (by repeat (first | exact Below.refl _ _ | assumption | refine Below.alloc ?_ (by first | exact Nat.le_refl _ | (simp only [World.size_alloc, World.size_setCell, World.size_drew]; omega) | omega) _ | refine Below.setCell ?_ (by first | exact Nat.le_refl _ | (simp only [World.size_alloc, World.size_setCell, World.size_drew]; omega) | omega) _ | refine Below.drew ?_))⟩

def oc1 (s : Int) : Int := IntKind.u64.wrap (bits .and .u64 (s / 2) 6148914691236517205 + bits .and .u64 s 6148914691236517205)
def oc2 (s : Int) : Int := IntKind.u64.wrap (bits .and .u64 (oc1 s / 4) 3689348814741910323 + bits .and .u64 (oc1 s) 3689348814741910323)
def oc3 (s : Int) : Int := bits .and .u64 (IntKind.u64.wrap (oc2 s / 16 + oc2 s)) 1085102592571150095
def oc4 (s : Int) : Int := IntKind.u64.wrap (oc3 s + oc3 s / 256)
def oc5 (s : Int) : Int := IntKind.u64.wrap (oc4 s + oc4 s / 65536)
def oc6 (s : Int) : Int := IntKind.u64.wrap (oc5 s + oc5 s / 4294967296)
theorem oc_all : ∀ s : Fin 1024, bits .and .i64 (IntKind.i64.wrap (oc6 (s.val : Int))) 127 = ((elems s.val).length : Int) := by decide +kernel
theorem oc_eq {s : Nat} (h : s < 1024) : bits .and .i64 (wrap64 (oc6 (s : Int))) 127 = ((elems s).length : Int) := by
  rw [← IntWalk.i64_left]
  exact oc_all ⟨s, h⟩
theorem ones64_any (s : Nat) (w : World) (h1 : s < 1024) :
    Calls Tryz.prog 118 #[.int .u64 (s : Int)] w fun e w' => e = .returned (.int .i64 ((elems s).length : Int)) ∧ w = w' := by
  go_enter Tryz.func118, Tryz.ntmps118
  go_wp2_with fail
  go_ret
  refine ⟨?_, rfl⟩
  rw [← oc_eq h1]
  rfl
theorem ones_any (s : Nat) (w : World) (h1 : s < 1024) :
    Calls Tryz.prog 98 #[.int .u64 (s : Int)] w fun e w' => e = .returned (.int .i64 ((elems s).length : Int)) ∧ w = w' := by
  go_enter Tryz.func98, Tryz.ntmps98
  go_wp2_with fail
  refine (ones64_any s _ h1).mono ?_
  rintro e w' ⟨rfl, rfl⟩
  go_wp2_with fail
  go_ret
  exact ⟨rfl, rfl⟩
theorem countElements_any (s : Nat) (w : World) (h1 : s < 1024) :
    Calls Tryz.prog 68 #[.int .i64 (s : Int)] w fun e w' => e = .returned (.int .i64 ((elems s).length : Int)) ∧ w = w' := by
  have s1 : (s : Int) < 1024 := by omega
  go_enter Tryz.func68, Tryz.ntmps68
  go_wp2_with fail
  refine (ones_any s _ h1).mono ?_
  rintro e w' ⟨rfl, rfl⟩
  go_wp2_with fail
  go_ret
  exact ⟨rfl, rfl⟩

set_option maxRecDepth 100000 in
set_option maxHeartbeats 4000000 in
theorem buildIv_any (a : Option Addr) (cs : List Int) (n c K : Nat) (m : Int) (B : Nat) (w : World) (hown : OwnV w B (.slice a n c) n cs) (hB : B ≤ w.heap.size) (hn : n ≤ 9) (hm : 0 ≤ m ∧ m ≤ 20) (hK : K ≤ 10) (hb : ∀ j, j < n → 0 ≤ lft cs j ∧ lft cs j < (K : Int) ∧ 0 ≤ rgt cs j ∧ rgt cs j < (K : Int)) (hf : 0 < n → 0 < K ∧ lfS cs n = 2 ^ K - 1) (h0 : n = 0 → m = 0 ∧ K = 0) :
    Calls Tryz.prog 35 #[.slice a n c, .int .i64 m] w fun e w' => ∃ a' c', e = .returned (.slice a' (n+1) c') ∧ OwnV w' B (.slice a' (n+1) c') (n+1) (agL cs n m (K : Int)) ∧ w.grownBy w' (Value.slice a n c).ownBlock := by
  have HL := Lib.hid hown.len
  by_cases hz : n = 0
  · subst hz
    obtain ⟨rfl, rfl⟩ := h0 rfl
    have hcs : cs = [] := List.eq_nil_of_length_eq_zero (by have := HL.out; omega)
    subst hcs
    have HA : Hid (agL [] 0 0 0 = [0, 0]) := by simp [Hid, agL, opnB, dTo, opnV, prs, fmap]
    go_enter Tryz.func35, Tryz.ntmps35
    go_wp2_with fail
    go_ret
    exact ⟨some ⟨w.heap.size, 0, none⟩, 1, rfl, by rw [HA.out]; exact World.ownsRow_lit w #[.int .i64 0, .int .i64 0] 1 hB (by unfold maxLen; omega) rfl, World.grownBy_alloc _ _ _⟩
  · have ⟨hK0, hfull⟩ := hf (by omega)
    obtain ⟨g, rfl, hg0, hg1⟩ := hown.head (by omega)
    have HB := Lib.hid hb
    have HLS : Hid (∀ j, j ≤ n → lfS cs j < 1024) := lfS_small hK (fun j hj => ⟨(hb j hj).1, (hb j hj).2.1⟩)
    have HF := Lib.hid hfull
    have HEL := Lib.hid (elems_full ⟨K, by omega⟩)
    have hn0 : ((n : Int) == 0) = false := by simp; omega
    clear hb hf h0 hfull
    go_enter Tryz.func35, Tryz.ntmps35
    go_wp2_with fail
    go_loopw [5, 21] (fun s i wr => ∃ j : Nat, j ≤ n ∧ i = .int .i64 j ∧ s = .int .i64 ((lfS cs j : Nat) : Int) ∧ Below w.heap.size w wr) (fun _ i _ => n - (intOf i).toNat)
    case atStart => exact ⟨0, Nat.zero_le _, rfl, rfl, Below.refl _ _⟩
    case round =>
      obtain ⟨j, hj, rfl, rfl, hb⟩ := hrel
      have hbs := hb.size
      have o1 := hown.below hb (Nat.le_refl _)
      have hls := HLS.out j hj
      by_cases hlt : j < n
      · obtain ⟨b, off, e1, hbl, hc1, hc2⟩ := (o1.rd (by omega)).pair HL.out hlt
        simp only [Option.some.injEq, Addr.mk.injEq, and_true] at e1
        obtain ⟨rfl, rfl⟩ := e1
        rw [Nat.zero_add] at hc1 hc2
        have ⟨l0, l1, r0, r1⟩ := HB.out j hlt
        obtain ⟨L, hL⟩ := Int.eq_ofNat_of_zero_le l0
        have HN : Hid (lfS cs (j+1) = lfS cs j ||| 2 ^ L) := by rw [Hid, lfS, hL]; rfl
        rw [hL] at hc1 l1
        have HO := Lib.hid (or_bit (b := lfS cs j) (k := L) (by omega) (by omega))
        clear hL l0
        go_wp2_with fail
        go_roundw
        case rel => exact ⟨j + 1, by omega, by go_num, by rw [HO.out, HN.out], hb.alloc hbs _⟩
        case measure => simp [intOf]; omega
      · obtain rfl : j = n := by omega
        have HCE := Lib.hid (countElements_any (lfS cs j) wr hls)
        go_wp2_with fail
        refine HCE.out.mono ?_
        rintro e w2 ⟨rfl, rfl⟩
        rw [HF.out, HEL.out]
        go_wp2_with fail
        go_loopw [9, 36] (fun d i wr => ∃ q : Nat, q ≤ j ∧ i = .int .i64 q ∧ d = .int .i64 (dTo cs (K : Int) q) ∧ Below w.heap.size w wr) (fun _ i _ => j - (intOf i).toNat)
        case atStart => exact ⟨0, Nat.zero_le _, rfl, rfl, hb⟩
        case round =>
          clear hb hbs o1 hls HCE
          obtain ⟨q, hq, rfl, rfl, hb⟩ := hrel
          have hbs := hb.size
          have o1 := hown.below hb (Nat.le_refl _)
          have hdl := (dTo_le (cs := cs) (k := (K : Int)) (n := q)).1
          by_cases hlt2 : q < j
          · obtain ⟨b, off, e1, hbl, hc1, hc2⟩ := (o1.rd (by omega)).pair HL.out hlt2
            simp only [Option.some.injEq, Addr.mk.injEq, and_true] at e1
            obtain ⟨rfl, rfl⟩ := e1
            rw [Nat.zero_add] at hc1 hc2
            have ⟨l0, l1, r0, r1⟩ := HB.out q hlt2
            by_cases hr : rgt cs q = (K : Int) - 1
            · have HN : Hid (dTo cs (K : Int) (q+1) = min (dTo cs (K : Int) q) (lft cs q)) := by rw [Hid, dTo, if_pos hr]
              have hq1 : (rgt cs q == (K : Int) - 1) = true := by simp [hr]
              clear hr
              go_wp2_with fail
              go_roundw
              case rel => exact ⟨q + 1, by omega, by go_num, val_int (by rw [HN.out] <;> (first | rfl | omega | (split <;> omega))), hb.alloc hbs _⟩
              case measure => simp [intOf]; omega
            · have HN : Hid (dTo cs (K : Int) (q+1) = dTo cs (K : Int) q) := by rw [Hid, dTo, if_neg hr]
              have hq1 : (rgt cs q == (K : Int) - 1) = false := by simp [hr]
              clear hr
              go_wp2_with fail
              go_roundw
              case rel => exact ⟨q + 1, by omega, by go_num, by rw [HN.out], hb.alloc hbs _⟩
              case measure => simp [intOf]; omega
          · obtain rfl : q = j := by omega
            have g2 : (0 : Int) < (K : Int) := by omega
            by_cases hmd : m ≤ dTo cs (K : Int) q
            · have HA : Hid (agL cs q m (K : Int) = cs ++ [m, (K : Int) - 1]) := by
                have : opnB cs q m (K : Int) = false := by simp [opnB, hmd, hK0]
                simp [Hid, agL, this]
              go_wp2_with (at_builtin; refine push_iv rfl _ _ rfl rfl rfl o1 rfl (by omega) (by omega) ?_; intro v5 w5 o5 hg5 hat5)
              obtain ⟨a5, c5, rfl⟩ := o5.form
              go_ret
              exact ⟨a5, c5, rfl, by rw [HA.out]; exact o5, grown_trans (below_grown hb (Nat.le_refl _) _) hg5⟩
            · have HA : Hid (agL cs q m (K : Int) = opnV cs m (K : Int) q ++ [m, (K : Int)]) := by
                have : opnB cs q m (K : Int) = true := by simp [opnB, hmd]
                simp [Hid, agL, this]
              have o2 : OwnV wr B (.slice (some ⟨g, 0, none⟩) q c) q (mixV cs m (K : Int) q 0) := by rw [mixV_zero HL.out]; exact o1
              have hg2 : w.grownBy wr (some g) := below_grown hb (Nat.le_refl _) _
              go_wp2_with fail
              go_loopw [62] (fun i wi => ∃ p : Nat, p ≤ q ∧ i = .int .i64 p ∧ OwnV wi B (.slice (some ⟨g, 0, none⟩) q c) q (mixV cs m (K : Int) q p) ∧ w.grownBy wi (some g)) (fun i _ => q - (intOf i).toNat)
              case atStart => exact ⟨0, Nat.zero_le _, rfl, o2, hg2⟩
              case round =>
                clear hb hbs o1 o2 hg2
                obtain ⟨p, hp, rfl, hown2, hgw⟩ := hrel
                by_cases hlt3 : p < q
                · have hml := mixV_len cs m (K : Int) q p
                  have ⟨c1, f1⟩ := hown2.at' (i := p * 2) (by omega)
                  have ⟨c2, f2⟩ := hown2.at' (i := p * 2 + 1) (by omega)
                  have e1 : nth (mixV cs m (K : Int) q p) (p * 2) = lft cs p := mixV_lft hlt3 (Nat.le_refl _)
                  have e2 : nth (mixV cs m (K : Int) q p) (p * 2 + 1) = rgt cs p := mixV_rgt hlt3 (Nat.le_refl _)
                  rw [e1] at c1
                  rw [e2] at c2
                  have ⟨l0, l1, r0, r1⟩ := HB.out p hlt3
                  have HX : Hid (((mixV cs m (K : Int) q p).set (p * 2) (opnL (lft cs p) m)).set (p * 2 + 1) (opnR (lft cs p) (rgt cs p) m (K : Int)) = mixV cs m (K : Int) q (p+1)) := mixV_next hlt3
                  have hgl := (hown2.lt g rfl).2
                  have hBg := (hown2.lt g rfl).1
                  clear e1 e2
                  go_wp2_with fail
                  refine (openAt_any _ _ _ _ _ (by omega) (by omega) hm (by omega)).mono ?_
                  rintro e w3 ⟨rfl, hb3⟩
                  have ht3 : Below wr.heap.size wr w3 := Below.trans (by repeat (first | exact Below.refl _ _ | assumption | refine Below.alloc ?_ (by first | exact Nat.le_refl _ | (simp only [World.size_alloc, World.size_setCell, World.size_drew]; omega) | omega) _ | refine Below.setCell ?_ (by first | exact Nat.le_refl _ | (simp only [World.size_alloc, World.size_setCell, World.size_drew]; omega) | omega) _ | refine Below.drew ?_)) (hb3.mono (by first | (simp only [World.size_alloc, World.size_setCell, World.size_drew]; omega) | omega))
                  have o3 := hown2.below ht3 (Nat.le_refl _)
                  have ⟨c3, f3⟩ := o3.at' (i := p * 2) (by omega)
                  have ⟨c4, f4⟩ := o3.at' (i := p * 2 + 1) (by omega)
                  have q1 := o3.put (p * 2) (opnL (lft cs p) m)
                  have q2 := q1.1.put (p * 2 + 1) (opnR (lft cs p) (rgt cs p) m (K : Int))
                  rw [HX.out] at q2
                  have HQ2 := Lib.hid (And.intro q2.1 (grown_trans (grown_trans (grown_trans hgw (below_grown ht3 (Nat.le_refl _) _)) q1.2) q2.2))
                  clear hown2 q1 q2 hml c1 f1 c2 f2 hgw
                  go_wp2_with fail
                  go_roundw
                  case rel => exact ⟨p + 1, by omega, by go_num, HQ2.out.1, HQ2.out.2⟩
                  case measure => simp [intOf]; omega
                · obtain rfl : p = q := by omega
                  rw [mixV_all] at hown2
                  have hgs := hgw.size
                  go_wp2_with (at_builtin; refine push_iv rfl _ _ rfl rfl rfl hown2 rfl (by omega) (by omega) ?_; intro v5 w5 o5 hg5 hat5)
                  obtain ⟨a5, c5, rfl⟩ := o5.form
                  go_ret
                  exact ⟨a5, c5, rfl, by rw [HA.out]; exact o5, grown_trans hgw hg5⟩

theorem noClimb_any (w : World) :
    Calls Tryz.prog 65 #[] w fun e w' => e = .returned (.agg #[.int .i64 (-1), .int .i64 (-1)]) ∧ Below w.heap.size w w' := by
  go_enter Tryz.func65, Tryz.ntmps65
  go_wp2
  refine bodyPost_ret (v := .agg #[.int .i64 (-1), .int .i64 (-1)]) (by simp [results, Tryz.results65, go_sem]) rfl ⟨rfl, ?_⟩
  exact (by repeat (first | exact Below.refl _ _ | assumption | refine Below.alloc ?_ (by first | exact Nat.le_refl _ | (simp only [World.size_alloc, World.size_setCell, World.size_drew]; omega) | omega) _ | refine Below.setCell ?_ (by first | exact Nat.le_refl _ | (simp only [World.size_alloc, World.size_setCell, World.size_drew]; omega) | omega) _ | refine Below.drew ?_))
theorem greatest_any (l c : Int) (w : World) (h0 : -1 ≤ c) (h1 : c ≤ 1000) :
    Calls Tryz.prog 66 #[.agg #[.int .i64 l, .int .i64 c]] w fun e w' => e = .returned (.int .i64 (c + 1)) ∧ Below w.heap.size w w' := by
  go_enter Tryz.func66, Tryz.ntmps66
  go_wp2
  go_ret
  exact ⟨rfl, (by repeat (first | exact Below.refl _ _ | assumption | refine Below.alloc ?_ (by first | exact Nat.le_refl _ | (simp only [World.size_alloc, World.size_setCell, World.size_drew]; omega) | omega) _ | refine Below.setCell ?_ (by first | exact Nat.le_refl _ | (simp only [World.size_alloc, World.size_setCell, World.size_drew]; omega) | omega) _ | refine Below.drew ?_))⟩
theorem by_any (l c x : Int) (w : World) (h0 : -1 ≤ c) (h1 : c ≤ 1000) :
    Calls Tryz.prog 67 #[.agg #[.int .i64 l, .int .i64 c], .int .i64 x] w fun e w' => e = .returned (.agg #[.int .i64 x, .int .i64 (byA l c x)]) ∧ Below w.heap.size w w' := by
  by_cases h : l < x
  · have H : Hid (byA l c x = c + 1) := by simp [Hid, byA, h]
    go_enter Tryz.func67, Tryz.ntmps67
    go_wp2
    refine bodyPost_ret (v := .agg #[.int .i64 x, .int .i64 (c + 1)]) (by simp [results, Tryz.results67, go_sem]) rfl ⟨by rw [H.out], ?_⟩
    exact (by repeat (first | exact Below.refl _ _ | assumption | refine Below.alloc ?_ (by first | exact Nat.le_refl _ | (simp only [World.size_alloc, World.size_setCell, World.size_drew]; omega) | omega) _ | refine Below.setCell ?_ (by first | exact Nat.le_refl _ | (simp only [World.size_alloc, World.size_setCell, World.size_drew]; omega) | omega) _ | refine Below.drew ?_))
  · have H : Hid (byA l c x = c) := by simp [Hid, byA, h]
    go_enter Tryz.func67, Tryz.ntmps67
    go_wp2
    refine bodyPost_ret (v := .agg #[.int .i64 x, .int .i64 c]) (by simp [results, Tryz.results67, go_sem]) rfl ⟨by rw [H.out], ?_⟩
    exact (by repeat (first | exact Below.refl _ _ | assumption | refine Below.alloc ?_ (by first | exact Nat.le_refl _ | (simp only [World.size_alloc, World.size_setCell, World.size_drew]; omega) | omega) _ | refine Below.setCell ?_ (by first | exact Nat.le_refl _ | (simp only [World.size_alloc, World.size_setCell, World.size_drew]; omega) | omega) _ | refine Below.drew ?_))

theorem iIsAscent_any (a : Option Addr) (xs : List Int) (cap : Nat) (w : World) (hx : Rd w a xs) :
    Calls Tryz.prog 34 #[.slice a xs.length cap] w fun e w' => e = .returned (.bool (ascB xs)) ∧ Below w.heap.size w w' := by
  have hlen := hx.len
  by_cases hl : xs.length ≤ 12
  · go_enter Tryz.func34, Tryz.ntmps34
    go_wp2_with fail
    refine (noClimb_any _).mono ?_
    rintro e w1 ⟨rfl, hb1⟩
    have hz1 := hb1.size
    have V1 : Var2 (w1.alloc (.cells #[.int .i64 (-1), .int .i64 (-1)] 89)) w1.heap.size (.int .i64 (-1)) (.int .i64 (-1)) := Var2.new w1 _ _ _
    have b2 : Below w.heap.size w (w1.alloc (.cells #[.int .i64 (-1), .int .i64 (-1)] 89)) := hb1.alloc hz1 _
    go_wp2_with fail
    obtain ⟨g, hg⟩ : ∃ g, g = w1.heap.size := ⟨_, rfl⟩
    rw [← hg] at V1 hz1 ⊢
    clear hg
    go_loopw [12] (fun i wr => ∃ k : Nat, k ≤ xs.length ∧ i = .int .i64 k ∧ (∀ j, j < k → ascOk xs j = true) ∧ Var2 wr g (.int .i64 (clLast xs k)) (.int .i64 (clAsc xs k)) ∧ Below w.heap.size w wr) (fun i _ => xs.length - (intOf i).toNat)
    case atStart => exact ⟨0, Nat.zero_le _, rfl, fun j hj => by omega, V1, b2⟩
    case round =>
      clear V1 b2 hb1
      obtain ⟨k, hk, rfl, hall, hV, hb⟩ := hrel
      have HA := Lib.hid hall
      have ⟨⟨zV, cV, dV⟩, fV, gV⟩ := hV
      have ⟨ca0, ca1⟩ := clAsc_lt xs k
      clear hall
      by_cases hlt : k < xs.length
      · have hxr := hx.below hb
        obtain ⟨b, off, rfl, hbl, hc⟩ := hxr.cell k hlt
        by_cases h0 : nth xs k < 0
        · have HO : Hid (ascB xs = false) := ascB_no hlt (by rw [ascOk, inB_no]; omega)
          go_wp2_with fail
          go_ret
          exact ⟨ret_bool HO.out.symm, hb⟩
        · by_cases h1 : clAsc xs k + 1 < nth xs k
          · have HO : Hid (ascB xs = false) := ascB_no hlt (by rw [ascOk, inB_no, ← clAsc_bnd]; omega)
            go_wp2_with fail
            refine (greatest_any _ _ _ ca0 (by omega)).mono ?_
            rintro e w2 ⟨rfl, hb2⟩
            go_wp2_with fail
            go_ret
            exact ⟨ret_bool HO.out.symm, hb.trans (hb2.mono hb.size)⟩
          · have HM : Hid (ascOk xs k = true) := by rw [Hid, ascOk, inB_iff, ← clAsc_bnd]; omega
            have HS : Hid (byA (clLast xs k) (clAsc xs k) (nth xs k) = clAsc xs (k+1)) := clAsc_succ (by omega)
            have HL : Hid (clLast xs (k+1) = nth xs k) := clLast_succ xs k
            go_wp2_with fail
            refine (greatest_any _ _ _ ca0 (by omega)).mono ?_
            rintro e w2 ⟨rfl, hb2⟩
            have V2 := hV.below hb2
            have ⟨⟨zV2, cV2, dV2⟩, fV2, gV2⟩ := V2
            clear cV dV fV gV
            go_wp2_with fail
            refine (by_any _ _ _ _ ca0 (by omega)).mono ?_
            rintro e w3 ⟨rfl, hb3⟩
            have V3 := V2.below hb3
            have ⟨⟨zV3, cV3, dV3⟩, fV3, gV3⟩ := V3
            clear cV2 dV2 fV2 gV2
            rw [HS.out]
            have b3 : Below w.heap.size w w3 := (hb.trans (hb2.mono hb.size)).trans (hb3.mono (Nat.le_trans hb.size hb2.size))
            go_wp2_with fail
            go_roundw
            case rel =>
              refine ⟨k + 1, by omega, by go_num, fun j hj => ?_, by rw [HL.out]; exact V3.set _ _, (b3.setCell (p := ⟨g, 0, none⟩) hz1 _).setCell (p := ⟨g, 1, none⟩) hz1 _⟩
              by_cases e : j = k
              · rw [e]; exact HM.out
              · exact HA.out j (by omega)
            case measure => simp [intOf]; omega
      · obtain rfl : k = xs.length := by omega
        have HO : Hid (ascB xs = true) := ascB_iff.2 ⟨hl, HA.out⟩
        go_wp2_with fail
        go_ret
        exact ⟨ret_bool HO.out.symm, hb⟩
  · have HO := Lib.hid (ascB_long hl)
    go_enter Tryz.func34, Tryz.ntmps34
    go_wp2_with fail
    go_ret
    exact ⟨ret_bool HO.out.symm, Below.refl _ _⟩

theorem ag_bd {xs : List Int} (h : ascB xs = true) {i : Nat} (hi : i < xs.length) (h10 : xs.length ≤ 10) :
    (0 ≤ nth xs i ∧ nth xs i ≤ 20) ∧ (0 ≤ (agC xs i).2 ∧ (agC xs i).2 ≤ 20) ∧ (∀ j, j < i → 0 ≤ lft (agC xs i).1 j ∧ lft (agC xs i).1 j ≤ 20 ∧ 0 ≤ rgt (agC xs i).1 j ∧ rgt (agC xs i).1 j ≤ 20) ∧ (0 < i → 0 < (agC xs i).2) := by
  have h1 := ascB_small h hi
  refine ⟨by omega, ?_⟩
  cases i with
  | zero => exact ⟨by simp [agC], fun j hj => by omega, fun h => by omega⟩
  | succ i =>
    have hp := ag_ok h i (by omega)
    have h2 := ascTo_le xs (i+1)
    have h3 := hp.asc
    refine ⟨by omega, fun j hj => ?_, fun _ => by omega⟩
    have := hp.bd j hj
    omega

theorem ag_no {xs : List Int} (h : agB xs = false) : agN xs = 0 ∧ agV xs = [] := by simp [agN, agV, h]
theorem ag_yes {xs : List Int} (h : agB xs = true) : agN xs = xs.length ∧ agV xs = (agC xs xs.length).1 := by simp [agN, agV, h]

theorem ag_nat {xs : List Int} (h : ascB xs = true) {i : Nat} (hi : i < xs.length) (h10 : xs.length ≤ 10) : ∃ K : Nat, (agC xs i).2 = (K : Int) ∧ K ≤ 10 ∧ (∀ j, j < i → 0 ≤ lft (agC xs i).1 j ∧ lft (agC xs i).1 j < (K : Int) ∧ 0 ≤ rgt (agC xs i).1 j ∧ rgt (agC xs i).1 j < (K : Int)) ∧ (0 < i → 0 < K ∧ lfS (agC xs i).1 i = 2 ^ K - 1) ∧ (i = 0 → nth xs i = 0 ∧ K = 0) := by
  cases i with
  | zero =>
    have h1 := ascB_nth h hi
    rw [bndTo_zero] at h1
    exact ⟨0, rfl, by omega, fun j hj => by omega, fun h => by omega, fun _ => ⟨by omega, rfl⟩⟩
  | succ i =>
    have hp := ag_ok h i (by omega)
    have h2 := ascTo_le xs (i+1)
    have h3 := hp.asc
    obtain ⟨K, hK⟩ := Int.eq_ofNat_of_zero_le (show 0 ≤ (agC xs (i+1)).2 by omega)
    have hb : ∀ j, j < i + 1 → 0 ≤ lft (agC xs (i+1)).1 j ∧ lft (agC xs (i+1)).1 j < (K : Int) ∧ 0 ≤ rgt (agC xs (i+1)).1 j ∧ rgt (agC xs (i+1)).1 j < (K : Int) := fun j hj => by
      have := hp.bd j hj
      omega
    exact ⟨K, hK, by omega, hb, fun _ => ⟨by omega, lfS_full (fun j hj => ⟨(hb j hj).1, (hb j hj).2.1⟩) (fun v h0 h1 => hp.all v h0 (by omega))⟩, fun h => by omega⟩
theorem iIntervals_any (a : Option Addr) (xs : List Int) (cap : Nat) (w : World) (hx : Rd w a xs) (_ : xs.length ≤ cap) :
    Calls Tryz.prog 8 #[.slice a xs.length cap] w (GotV w (agN xs) (agV xs) (agB xs)) := by
  have hlen := hx.len
  unfold GotV
  cases h : ascB xs
  · have HB : Hid (agB xs = false) := by simp [Hid, agB, h]
    have HN : Hid (agN xs = 0 ∧ agV xs = []) := by simp [Hid, agN, agV, HB.out]
    have HA := Lib.hid h
    clear h
    go_enter Tryz.func8, Tryz.ntmps8
    go_wp2_with fail
    refine (iIsAscent_any _ _ _ _ hx).mono ?_
    rintro e w1 ⟨rfl, hb⟩
    rw [HA.out]
    go_wp2_with fail
    refine bodyPost_ret (v := .tuple #[.slice none 0 0, .bool false]) (by simp [results, Tryz.results8, go_sem]) rfl ?_
    exact ⟨none, 0, by rw [HN.out.1, HB.out], by rw [HN.out.1, HN.out.2]; exact OwnV.nil _ _, hb⟩
  · by_cases h10 : xs.length ≤ 10
    · have HB : Hid (agB xs = true) := by simp [Hid, agB, h, h10]
      have HN : Hid (agN xs = xs.length ∧ agV xs = (agC xs xs.length).1) := by simp [Hid, agN, agV, HB.out]
      have HA := Lib.hid h
      clear h
      go_enter Tryz.func8, Tryz.ntmps8
      go_wp2_with fail
      refine (iIsAscent_any _ _ _ _ hx).mono ?_
      rintro e w1 ⟨rfl, hb⟩
      rw [HA.out]
      go_wp2_with fail
      go_loopw [4, 17] (fun v i wr => ∃ j : Nat, j ≤ xs.length ∧ i = .int .i64 j ∧ OwnV wr w.heap.size v j (agC xs j).1 ∧ Below w.heap.size w wr) (fun _ i _ => xs.length - (intOf i).toNat)
      case atStart => exact ⟨0, Nat.zero_le _, rfl, OwnV.nil _ _, hb⟩
      case round =>
        clear hb
        obtain ⟨j, hj, rfl, hown, hb⟩ := hrel
        have hbs := hb.size
        obtain ⟨av, cv, rfl⟩ := hown.form
        by_cases hlt : j < xs.length
        · obtain ⟨b, off, rfl, hbl, hc⟩ := (hx.below hb).cell j hlt
          have ⟨K, hK, hK10, hbd, hfull, hz⟩ := ag_nat HA.out hlt h10
          have ⟨x0, x1⟩ := ascB_small HA.out hlt
          have HN1 : Hid ((agC xs (j+1)).1 = agL (agC xs j).1 j (nth xs j) (K : Int)) := by rw [Hid, ← hK]; rfl
          have hcall := buildIv_any av (agC xs j).1 j cv K (nth xs j) w.heap.size wr hown hbs (by omega) ⟨x0, by omega⟩ hK10 hbd hfull hz
          have HCL := Lib.hid hcall
          have hlt4 := Lib.hid hown.lt
          clear hcall hK hbd hfull hz hown
          go_wp2_with fail
          refine HCL.out.mono ?_
          rintro e w2 ⟨a2, c2, rfl, ho2, hg2⟩
          go_wp2_with fail
          go_roundw
          case rel => exact ⟨j + 1, by omega, by go_num, by rw [HN1.out]; exact ho2, hb.trans (below_of_grown hg2 (fun c e => (hlt4.out c e).1) hbs)⟩
          case measure => simp [intOf]; omega
        · obtain rfl : j = xs.length := by omega
          go_wp2_with fail
          refine bodyPost_ret (v := .tuple #[.slice av xs.length cv, .bool true]) (by simp [results, Tryz.results8, go_sem]) rfl ?_
          exact ⟨av, cv, by rw [HN.out.1, HB.out], by rw [HN.out.1, HN.out.2]; exact hown, hb⟩
    · have HB : Hid (agB xs = false) := by simp [Hid, agB, h10]
      have HN : Hid (agN xs = 0 ∧ agV xs = []) := by simp [Hid, agN, agV, HB.out]
      have HA := Lib.hid h
      clear h
      go_enter Tryz.func8, Tryz.ntmps8
      go_wp2_with fail
      refine (iIsAscent_any _ _ _ _ hx).mono ?_
      rintro e w1 ⟨rfl, hb⟩
      rw [HA.out]
      go_wp2_with fail
      refine bodyPost_ret (v := .tuple #[.slice none 0 0, .bool false]) (by simp [results, Tryz.results8, go_sem]) rfl ?_
      exact ⟨none, 0, by rw [HN.out.1, HB.out], by rw [HN.out.1, HN.out.2]; exact OwnV.nil _ _, hb⟩

theorem iOrderAsc_any (a : Option Addr) (xs : List Int) (cap : Nat) (w : World) (hx : Rd w a xs) (hcap : xs.length ≤ cap) :
    Calls Tryz.prog 11 #[.slice a xs.length cap] w (GotO w (aoO xs) (aoL xs) (agB xs)) := by
  have hlen := hx.len
  have hx1 := hx.alloc (.cells #[.int .i64 0, .slice none 0 0] 31)
  have R1 : Var2 (w.alloc (.cells #[.int .i64 0, .slice none 0 0] 31)) w.heap.size (.int .i64 0) (.slice none 0 0) := Var2.new w _ _ _
  have bw1 : Below w.heap.size w (w.alloc (.cells #[.int .i64 0, .slice none 0 0] 31)) := (Below.refl _ _).alloc (Nat.le_refl _) _
  cases hB : agB xs
  · have H1 : Hid (aoO xs = 0) := by simp [Hid, aoO, hB]
    have H2 : Hid (aoL xs = []) := by simp [Hid, aoL, hB]
    have HB := Lib.hid hB
    clear hB
    go_enter Tryz.func11, Tryz.ntmps11
    go_wp2_with fail
    refine (iIntervals_any _ _ _ _ hx1 hcap).mono ?_
    rintro e w1 ⟨a1, c1, rfl, ho1, hb⟩
    rw [HB.out]
    have R2 := R1.below hb
    have bw2 := bw1.trans (hb.mono bw1.size)
    have ⟨⟨zR, cR, dR⟩, fR, gR⟩ := R2
    go_wp2_with fail
    have R3 := R2.set (.int .i64 0) (.slice none 0 0)
    refine bodyPost_ret (v := .tuple #[.agg #[.int .i64 0, .slice none 0 0], .bool false]) (by have ⟨⟨_, q1, q2⟩, _, _⟩ := R3; simp [results, Tryz.results11, go_sem, q1, q2]) rfl ?_
    exact got_no H1.out H2.out rfl ((bw2.setCell (p := ⟨w.heap.size, 0, none⟩) (Nat.le_refl _) _).setCell (p := ⟨w.heap.size, 1, none⟩) (Nat.le_refl _) _)
  · have ⟨hA, h10⟩ := agB_iff.1 hB
    have H1 : Hid (aoO xs = (xs.length : Int)) := by simp [Hid, aoO, hB]
    have H2 : Hid (aoL xs = ivo (agC xs xs.length).1 xs.length xs.length) := by simp [Hid, aoL, hB]
    have H3 : Hid (agN xs = xs.length) := by simp [Hid, agN, hB]
    have H4 : Hid (agV xs = (agC xs xs.length).1) := by simp [Hid, agV, hB]
    have HCL := Lib.hid (agC_len xs xs.length)
    have hg := ag_good hA h10
    have H5 : Hid (ooN (agC xs xs.length).1 xs.length = (xs.length : Int)) := by simp [Hid, ooN, hg]
    have H6 : Hid (ooL (agC xs xs.length).1 xs.length = ivo (agC xs xs.length).1 xs.length xs.length) := by simp [Hid, ooL, hg]
    have HG := Lib.hid hg
    have HB := Lib.hid hB
    clear hB hA hg
    go_enter Tryz.func11, Tryz.ntmps11
    go_wp2_with fail
    refine (iIntervals_any _ _ _ _ hx1 hcap).mono ?_
    rintro e w1 ⟨a1, c1, rfl, ho1, hb⟩
    rw [HB.out, H3.out]
    rw [H3.out, H4.out] at ho1
    have R2 := R1.below hb
    have bw2 := bw1.trans (hb.mono bw1.size)
    have hr1 := ho1.rd (by omega)
    clear hb ho1
    go_wp2_with fail
    refine (iOrderOfIv_any _ _ _ _ _ hr1 HCL.out (by omega)).mono ?_
    rintro e w3 ⟨a3, c3, rfl, ho3, hb3⟩
    rw [H5.out, H6.out, HG.out, ivo_len]
    rw [H6.out, ivo_len] at ho3
    have R4 := R2.below hb3
    have bw4 := bw2.trans (hb3.mono bw2.size)
    have ⟨⟨zR, cR, dR⟩, fR, gR⟩ := R4
    have hz2 : w.heap.size < w1.heap.size := R2.1.1
    clear hb3
    go_wp2_with fail
    have R5 := R4.set (.int .i64 (xs.length : Int)) (.slice a3 xs.length c3)
    refine bodyPost_ret (v := .tuple #[.agg #[.int .i64 (xs.length : Int), .slice a3 xs.length c3], .bool true]) (by have ⟨⟨_, q1, q2⟩, _, _⟩ := R5; simp [results, Tryz.results11, go_sem, q1, q2]) rfl ?_
    refine ⟨a3, c3, by rw [H1.out, H2.out, ivo_len], ?_, ?_⟩
    · rw [H2.out, ivo_len]
      exact ((ho3.setBelow (p := ⟨w.heap.size, 0, none⟩) hz2 _).setBelow (p := ⟨w.heap.size, 1, none⟩) hz2 _).mono (by omega)
    · exact (bw4.setCell (p := ⟨w.heap.size, 0, none⟩) (Nat.le_refl _) _).setCell (p := ⟨w.heap.size, 1, none⟩) (Nat.le_refl _) _

/-- are two lists of rows the same? -/
def eqR (xss yss : List (List Int)) : Bool := decide (xss.length = yss.length) && (List.range xss.length).all fun k => eqL (rowL xss k) (rowL yss k)
theorem eqR_iff {xss yss : List (List Int)} : eqR xss yss = true ↔ xss.length = yss.length ∧ ∀ k, k < xss.length → eqL (rowL xss k) (rowL yss k) = true := by simp [eqR]

def alkB (n : Int) (xs : List Int) (m : Int) (ys : List Int) : Bool := isIv n xs && isIv m ys
def alkV (n : Int) (xs : List Int) (m : Int) (ys : List Int) : Bool := alkB n xs m ys && eqR (moL n xs) (moL m ys)

theorem sliceEqual_any (a b : Option Addr) (xs ys : List Int) (ca cb : Nat) (w : World) (hx : Rd w a xs) (hy : Rd w b ys) :
    Calls Tryz.prog 56 #[.slice a xs.length ca, .slice b ys.length cb] w fun e w' => e = .returned (.bool (eqL xs ys)) ∧ Below w.heap.size w w' := by
  have hlx := hx.len
  have hly := hy.len
  by_cases hl : xs.length = ys.length
  · have hl' : ((xs.length : Int) != (ys.length : Int)) = false := by simp [hl]
    go_enter Tryz.func56, Tryz.ntmps56
    have HL := Lib.hid hl
    clear hl
    go_wp2_with fail
    go_loopw [13] (fun i wr => ∃ k : Nat, k ≤ xs.length ∧ i = .int .i64 k ∧ xs.take k = ys.take k ∧ Below w.heap.size w wr) (fun i _ => xs.length - (intOf i).toNat)
    case atStart => exact ⟨0, Nat.zero_le _, rfl, rfl, Below.refl _ _⟩
    case round =>
      obtain ⟨k, hk, rfl, htk, hb⟩ := hrel
      have HT := Lib.hid htk
      clear htk
      by_cases hlt : k < xs.length
      · have hlt' : k < ys.length := by rw [← HL.out]; exact hlt
        obtain ⟨b1, o1, rfl, hb1, hc1⟩ := (hx.below hb).cell k hlt
        obtain ⟨b2, o2, rfl, hb2, hc2⟩ := (hy.below hb).cell k hlt'
        by_cases he : nth xs k = nth ys k
        · have he' : (nth xs k != nth ys k) = false := by simp [he]
          have HE := Lib.hid he
          clear he
          go_wp2_with fail
          go_quiet (fail)
          go_wp2_with fail
          go_roundw
          case rel =>
            refine ⟨k + 1, by omega, by go_num, ?_, by exact hb.trans (Joins.below_draws _ _ _)⟩
            rw [List.take_succ_eq_append_getElem hlt, List.take_succ_eq_append_getElem hlt', HT.out, ← nth_get, ← nth_get, HE.out]
          case measure => simp [intOf]; omega
        · have he' : (nth xs k != nth ys k) = true := by simp [he]
          have hne : eqL xs ys = false := by
            simp only [eqL, decide_eq_false_iff_not]
            intro e
            subst e
            exact he rfl
          have HN := Lib.hid hne
          clear he hne
          go_wp2_with fail
          go_quiet (fail)
          go_wp2_with fail
          go_ret
          exact ⟨ret_bool HN.out.symm, hb.trans (Joins.below_draws _ _ _)⟩
      · go_wp2_with fail
        go_ret
        refine ⟨ret_bool ?_, hb⟩
        have h1 := HT.out
        rw [List.take_of_length_le (by omega), List.take_of_length_le (by rw [← HL.out]; omega)] at h1
        simp [eqL, h1]
  · have hl' : ((xs.length : Int) != (ys.length : Int)) = true := by simp; omega
    have hne : eqL xs ys = false := by
      simp only [eqL, decide_eq_false_iff_not]
      intro e
      exact hl (by rw [e])
    have HN := Lib.hid hne
    clear hl hne
    go_enter Tryz.func56, Tryz.ntmps56
    go_wp2_with fail
    go_ret
    exact ⟨ret_bool HN.out.symm, Below.refl _ _⟩

set_option maxRecDepth 100000 in
theorem eqFunc_any (a b : Option Addr) (xss yss : List (List Int)) (ca cb : Nat) (w : World) (hx : RdS w a xss) (hy : RdS w b yss) :
    Calls Tryz.prog 55 #[.slice a xss.length ca, .slice b yss.length cb, .func (.func 56) #[] #[]] w fun e w' => e = .returned (.bool (eqR xss yss)) ∧ Below w.heap.size w w' := by
  have hlx := hx.len
  have hly := hy.len
  by_cases hl : xss.length = yss.length
  · have hl' : ((xss.length : Int) != (yss.length : Int)) = false := by simp [hl]
    have HL := Lib.hid hl
    clear hl
    go_enter Tryz.func55, Tryz.ntmps55
    go_wp2_with fail
    go_loopw [17] (fun i wr => ∃ k : Nat, k ≤ xss.length ∧ i = .int .i64 k ∧ Hid (∀ j, j < k → eqL (rowL xss j) (rowL yss j) = true) ∧ Below w.heap.size w wr) (fun i _ => xss.length - (intOf i).toNat)
    case atStart => exact ⟨0, Nat.zero_le _, rfl, fun j hj => by omega, Below.refl _ _⟩
    case round =>
      obtain ⟨k, hk, rfl, HA, hb⟩ := hrel
      have hbs := hb.size
      by_cases hlt : k < xss.length
      · have hlt' : k < yss.length := by rw [← HL.out]; exact hlt
        obtain ⟨b1, o1, a1, c1, rfl, hb1, hc1, hr1⟩ := (hx.below hb).row k hlt
        obtain ⟨b2, o2, a2, c2, rfl, hb2, hc2, hr2⟩ := (hy.below hb).row k hlt'
        have k1 : (k : Int) < (xss.length : Int) := by omega
        have k2 : (k : Int) < (yss.length : Int) := by omega
        have hrl1 := hr1.len
        have hrl2 := hr2.len
        have HC := Lib.hid (sliceEqual_any a1 a2 (rowL xss k) (rowL yss k) c1 c2 wr hr1 hr2)
        cases he : eqL (rowL xss k) (rowL yss k)
        · have H : Hid (eqR xss yss = false) := by
            rw [Hid, ← Bool.not_eq_true, eqR_iff]
            intro h
            rw [h.2 k hlt] at he
            cases he
          have HE := Lib.hid he
          clear he hr1 hr2
          go_wp2_with fail
          refine HC.out.mono ?_
          rintro e w2 ⟨rfl, hb2'⟩
          rw [HE.out]
          go_wp2_with fail
          go_ret
          exact ⟨ret_bool H.out.symm, hb.trans (hb2'.mono hbs)⟩
        · have HE := Lib.hid he
          clear he hr1 hr2
          go_wp2_with fail
          refine HC.out.mono ?_
          rintro e w2 ⟨rfl, hb2'⟩
          rw [HE.out]
          go_wp2_with fail
          go_roundw
          case rel =>
            refine ⟨k + 1, by omega, by go_num, fun j hj => ?_, hb.trans (hb2'.mono hbs)⟩
            by_cases e : j = k
            · rw [e]; exact HE.out
            · exact HA.out j (by omega)
          case measure => simp [intOf]; omega
      · obtain rfl : k = xss.length := by omega
        have H : Hid (eqR xss yss = true) := eqR_iff.2 ⟨HL.out, HA.out⟩
        go_wp2_with fail
        go_ret
        exact ⟨ret_bool H.out.symm, hb⟩
  · have hl' : ((xss.length : Int) != (yss.length : Int)) = true := by simp; omega
    have H : Hid (eqR xss yss = false) := by
      rw [Hid, ← Bool.not_eq_true, eqR_iff]
      intro h
      exact hl h.1
    clear hl
    go_enter Tryz.func55, Tryz.ntmps55
    go_wp2_with fail
    go_ret
    exact ⟨ret_bool H.out.symm, Below.refl _ _⟩

set_option maxRecDepth 100000 in
set_option maxHeartbeats 1000000 in
theorem iAlike_any (n : Int) (a : Option Addr) (xs : List Int) (cap : Nat) (m : Int) (b : Option Addr) (ys : List Int) (capb : Nat) (w : World) (hn : -9223372036854775808 ≤ n ∧ n ≤ 9223372036854775807) (hx : Rd w a xs) (hm : -9223372036854775808 ≤ m ∧ m ≤ 9223372036854775807) (hy : Rd w b ys) :
    Calls Tryz.prog 25 #[.agg #[.int .i64 n, .slice a xs.length cap], .agg #[.int .i64 m, .slice b ys.length capb]] w fun e w' => e = .returned (.tuple #[.bool (alkV n xs m ys), .bool (alkB n xs m ys)]) ∧ Below w.heap.size w w' := by
  have hb0 : Below w.heap.size w ((w.alloc (.cells #[.int .i64 n, .slice a xs.length cap] 31)).alloc (.cells #[.int .i64 m, .slice b ys.length capb] 31)) := (by repeat (first | exact Below.refl _ _ | assumption | refine Below.alloc ?_ (by first | exact Nat.le_refl _ | (simp only [World.size_alloc, World.size_setCell, World.size_drew]; omega) | omega) _ | refine Below.setCell ?_ (by first | exact Nat.le_refl _ | (simp only [World.size_alloc, World.size_setCell, World.size_drew]; omega) | omega) _ | refine Below.drew ?_))
  have hA := (Box2.new w (.int .i64 n) (.slice a xs.length cap) 31).below ((Below.refl _ _).alloc (Nat.le_refl _) (.cells #[.int .i64 m, .slice b ys.length capb] 31))
  have hB := Box2.new (w.alloc (.cells #[.int .i64 n, .slice a xs.length cap] 31)) (.int .i64 m) (.slice b ys.length capb) 31
  rw [World.size_alloc] at hB
  have HX := Lib.hid hx
  have HY := Lib.hid hy
  have HC1 := Lib.hid (fun W (h : Rd W a xs) => iMxOrd_any n a xs cap W hn h)
  have HC2 := Lib.hid (fun W (h : Rd W b ys) => iMxOrd_any m b ys capb W hm h)
  have H3 : Hid (alkV n xs m ys = (alkB n xs m ys && eqR (moL n xs) (moL m ys))) := rfl
  have H2 : Hid (alkB n xs m ys = (isIv n xs && isIv m ys)) := rfl
  obtain ⟨P, hP⟩ : ∃ P, P = moL n xs := ⟨_, rfl⟩
  obtain ⟨Q, hQ⟩ : ∃ Q, Q = moL m ys := ⟨_, rfl⟩
  rw [← hP] at HC1 H3
  rw [← hQ] at HC2 H3
  clear hx hy hP hQ
  go_enter Tryz.func25, Tryz.ntmps25
  go_wp2_with fail
  refine (HC1.out _ (HX.out.below hb0)).mono ?_
  rintro e w1 ⟨a1, c1, l1, rfl, hro1, hb⟩
  have b1 : Below w.heap.size w w1 := hb0.trans (hb.mono (by simp; omega))
  have hB1 := (hB.below hb).below ((Below.refl _ _).alloc (Nat.le_refl _) (.cells #[.slice a1 P.length c1] 45))
  have hP1 := Box1.new w1 (.slice a1 P.length c1) 45
  have b1' := b1.alloc b1.size (.cells #[.slice a1 P.length c1] 45)
  have hro1' := hro1.below ((Below.refl _ _).alloc (Nat.le_refl _) (.cells #[.slice a1 P.length c1] 45)) (Nat.le_refl _)
  have ⟨zB, cB, dB⟩ := hB1
  have HRO1 := Lib.hid hro1'
  clear hb hA hB hro1 hro1' hb0
  go_wp2_with fail
  refine (HC2.out _ (HY.out.below b1')).mono ?_
  rintro e w2 ⟨a2, c2, l2, rfl, hro2, hb2⟩
  have b2 := b1'.trans (hb2.mono b1'.size)
  have hP2 := (hP1.below hb2).below ((Below.refl _ _).alloc (Nat.le_refl _) (.cells #[.slice a2 Q.length c2] 45))
  have hQ2 := Box1.new w2 (.slice a2 Q.length c2) 45
  have b2' := b2.alloc b2.size (.cells #[.slice a2 Q.length c2] 45)
  have bq : Below w2.heap.size w2 (w2.alloc (.cells #[.slice a2 Q.length c2] 45)) := (Below.refl _ _).alloc (Nat.le_refl _) _
  have HEQ := Lib.hid (eqFunc_any a1 a2 P Q c1 c2 (w2.alloc (.cells #[.slice a2 Q.length c2] 45)) (((HRO1.out.below hb2 (Nat.le_refl _)).below bq (Nat.le_refl _)).o.rd) ((hro2.below bq (Nat.le_refl _)).o.rd))
  have ⟨zP, cP⟩ := hP2
  have ⟨zQ, cQ⟩ := hQ2
  clear hb2 hro2 hB1 cB dB bq
  cases h1 : isIv n xs
  · have H1 := Lib.hid h1
    rw [H1.out] at H2
    clear h1
    go_wp2_with fail
    go_ret2
    exact ⟨ret_bb (by rw [H3.out, H2.out]; rfl) (by rw [H2.out]; rfl), b2'⟩
  · cases h2 : isIv m ys
    · have H1 := Lib.hid h1
      have HI := Lib.hid h2
      rw [H1.out, HI.out] at H2
      clear h1 h2
      go_wp2_with fail
      go_ret2
      exact ⟨ret_bb (by rw [H3.out, H2.out]; rfl) (by rw [H2.out]; rfl), b2'⟩
    · have H1 := Lib.hid h1
      have HI := Lib.hid h2
      rw [H1.out, HI.out] at H2
      clear h1 h2
      go_wp2_with fail
      refine HEQ.out.mono ?_
      rintro e w3 ⟨rfl, hb3⟩
      go_wp2_with fail
      go_ret2
      exact ⟨ret_bb (by rw [H3.out, H2.out]; rfl) (by rw [H2.out]; rfl), b2'.trans (hb3.mono b2'.size)⟩

set_option maxRecDepth 100000 in
set_option maxHeartbeats 8000000 in
theorem walk (a0 : Option Addr) (n0 cap0 : Nat) (a1 : Option Addr) (n1 cap1 : Nat) (w : World) (hR0 : RdB w a0 n0) (hl0 : n0 ≤ 9223372036854775807) (hR1 : RdB w a1 n1) (hl1 : n1 ≤ 9223372036854775807) :
    Calls Tryz.prog 4 #[.slice a0 n0 cap0, .slice a1 n1 cap1] w fun e w' => e = .returned (.bool true) ∧ Below w.heap.size w w' := by
  go_enter Tryz.func4, Tryz.ntmps4
  go_wp2_with fail
  refine (big_any _ _ _ _ _ _ _ hl0 hl1).mono ?_
  rintro e w' ⟨he, rfl⟩
  rcases he with rfl | ⟨rfl, hb0, hb1⟩
  · go_wp2_with fail
    go_ret
    exact ⟨rfl, (by repeat (first | exact Below.refl _ _ | assumption | refine Below.alloc ?_ (by first | exact Nat.le_refl _ | (simp only [World.size_alloc, World.size_setCell, World.size_drew]; omega) | omega) _ | refine Below.setCell ?_ (by first | exact Nat.le_refl _ | (simp only [World.size_alloc, World.size_setCell, World.size_drew]; omega) | omega) _ | refine Below.drew ?_))⟩
  · go_wp2_with fail
    refine (drOM_any _ _ _ _ hR0 hb0).mono ?_
    rintro e w1 ⟨a, cap, xss, rfl, hx, hs, hb⟩
    have HB := Lib.hid hb
    have HR := Lib.hid hx
    clear hx hb hR0 hR1 hl0 hl1 hb0 hb1
    obtain ⟨P, hP⟩ : ∃ P, P = omN xss := ⟨_, rfl⟩
    obtain ⟨L, hL⟩ : ∃ L, L = omL xss := ⟨_, rfl⟩
    obtain ⟨G, hG⟩ : ∃ G, G = omB xss := ⟨_, rfl⟩
    have HIO := Lib.hid (fun W (h : RdC W a xss) => iMxO_any a xss cap W h hs)
    have HSO := Lib.hid (fun W (h : RdC W a xss) => sMxO_any a xss cap W h hs)
    unfold GotO at HIO HSO
    rw [← hP, ← hL, ← hG] at HIO HSO
    have HEQ : Hid (∀ (m : Int) (zs : List Int), eqO m zs m zs = true) := fun m zs => eqO_refl m zs
    have HEL : Hid (∀ l : List Int, eqL l l = true) := fun l => by simp [eqL]
    have HPE := Lib.hid hP
    have HLE := Lib.hid hL
    have HGE := Lib.hid hG
    have q1 : (G != G) = false := by simp
    clear hP hL hG
    have ba1 : Below w1.heap.size w1 (w1.alloc (.cells #[.slice a xss.length cap] 45)) := (Below.refl _ _).alloc (Nat.le_refl _) _
    have HA := Lib.hid (Box1.new w1 (.slice a xss.length cap) 45)
    replace HB := Lib.hid (HB.out.trans (ba1.mono HB.out.size))
    replace HR := Lib.hid (HR.out.below ba1)
    obtain ⟨v1, hv1⟩ : ∃ x : World, x = w1.alloc (.cells #[.slice a xss.length cap] 45) := ⟨_, rfl⟩
    have HV1 := Lib.hid hv1
    rw [← hv1] at HA HB HR
    clear ba1 hv1
    have cA := HA.out.2
    go_wp2_with fail
    rw [← HV1.out]
    clear cA
    have ⟨zA, cA⟩ := HA.out
    refine (HIO.out _ HR.out).mono ?_
    rintro e w3 ⟨a3, c3, rfl, ho3, hb3⟩
    try clear zA cA
    replace HB := Lib.hid (HB.out.trans (hb3.mono HB.out.size))
    replace HA := Lib.hid (HA.out.below hb3)
    replace HR := Lib.hid (HR.out.below hb3)
    have ⟨zA, cA⟩ := HA.out
    clear hb3
    have HC := Lib.hid ho3.rd
    clear ho3
    have ba3 : Below w3.heap.size w3 (w3.alloc (.cells #[.int .i64 P, .slice a3 L.length c3] 31)) := (Below.refl _ _).alloc (Nat.le_refl _) _
    have HX := Lib.hid (Box2.new w3 (.int .i64 P) (.slice a3 L.length c3) 31)
    replace HB := Lib.hid (HB.out.trans (ba3.mono HB.out.size))
    replace HA := Lib.hid (HA.out.below ba3)
    replace HR := Lib.hid (HR.out.below ba3)
    replace HC := Lib.hid (HC.out.below ba3)
    obtain ⟨v3, hv3⟩ : ∃ x : World, x = w3.alloc (.cells #[.int .i64 P, .slice a3 L.length c3] 31) := ⟨_, rfl⟩
    have HV3 := Lib.hid hv3
    rw [← hv3] at HX HB HA HR HC
    clear ba3 hv3
    have cX := HX.out.2
    go_wp2_with fail
    rw [← HV3.out]
    try clear zA cA
    clear cX
    have ⟨zA, cA⟩ := HA.out
    have ⟨zX, cX, dX⟩ := HX.out
    refine (HSO.out _ HR.out).mono ?_
    rintro e w4 ⟨a4, c4, rfl, ho4, hb4⟩
    try clear zA cA
    try clear zX cX dX
    replace HB := Lib.hid (HB.out.trans (hb4.mono HB.out.size))
    replace HA := Lib.hid (HA.out.below hb4)
    replace HX := Lib.hid (HX.out.below hb4)
    replace HR := Lib.hid (HR.out.below hb4)
    replace HC := Lib.hid (HC.out.below hb4)
    have ⟨zA, cA⟩ := HA.out
    have ⟨zX, cX, dX⟩ := HX.out
    clear hb4
    have HD := Lib.hid ho4.rd
    clear ho4 HIO HSO
    have ba4 : Below w4.heap.size w4 (w4.alloc (.cells #[.int .i64 P, .slice a4 L.length c4] 31)) := (Below.refl _ _).alloc (Nat.le_refl _) _
    have HY := Lib.hid (Box2.new w4 (.int .i64 P) (.slice a4 L.length c4) 31)
    replace HB := Lib.hid (HB.out.trans (ba4.mono HB.out.size))
    replace HA := Lib.hid (HA.out.below ba4)
    replace HX := Lib.hid (HX.out.below ba4)
    replace HR := Lib.hid (HR.out.below ba4)
    replace HC := Lib.hid (HC.out.below ba4)
    replace HD := Lib.hid (HD.out.below ba4)
    obtain ⟨v4, hv4⟩ : ∃ x : World, x = w4.alloc (.cells #[.int .i64 P, .slice a4 L.length c4] 31) := ⟨_, rfl⟩
    have HV4 := Lib.hid hv4
    rw [← hv4] at HY HB HA HX HR HC HD
    clear ba4 hv4
    have cY := HY.out.2
    go_wp2_with fail
    rw [← HV4.out]
    try clear zA cA
    try clear zX cX dX
    clear cY
    have ⟨zA, cA⟩ := HA.out
    have ⟨zX, cX, dX⟩ := HX.out
    have ⟨zY, cY, dY⟩ := HY.out
    refine ((pSameO_any P P a3 a4 L L c3 c4 _ HC.out HD.out)).mono ?_
    rw [HEQ.out]
    rintro e w5 ⟨rfl, hb5⟩
    try clear zA cA
    try clear zX cX dX
    try clear zY cY dY
    replace HB := Lib.hid (HB.out.trans (hb5.mono HB.out.size))
    replace HA := Lib.hid (HA.out.below hb5)
    replace HX := Lib.hid (HX.out.below hb5)
    replace HY := Lib.hid (HY.out.below hb5)
    replace HR := Lib.hid (HR.out.below hb5)
    replace HC := Lib.hid (HC.out.below hb5)
    replace HD := Lib.hid (HD.out.below hb5)
    have ⟨zA, cA⟩ := HA.out
    have ⟨zX, cX, dX⟩ := HX.out
    have ⟨zY, cY, dY⟩ := HY.out
    clear hb5
    clear HD HY
    try clear zY cY dY
    cases hGG : G
    · go_wp2_with fail
      go_ret
      exact ⟨rfl, HB.out⟩
    · have hgb : omB xss = true := by rw [← HGE.out]; exact hGG
      have hM : mxB xss = true := by simp only [omB, Bool.and_eq_true] at hgb; exact hgb.1
      have h10 : matS xss xss.length ≤ 10 := by simp only [omB, Bool.and_eq_true, decide_eq_true_eq] at hgb; exact hgb.2
      have ⟨hiv, hmo, hll⟩ := om_canon hgb
      have ⟨hA, hK, hKl⟩ := mo_asL hM
      have e1 : P = ((omC xss : Nat) : Int) := by rw [HPE.out, omN, if_pos hgb]
      rw [← HLE.out] at hiv hmo hll
      rw [← hll] at e1 hiv hmo
      subst e1
      have hl10 : L.length ≤ 10 := by have := (relB_p (ordB_iff.1 (isIv_ord hiv)).1).n1; omega
      have hnn : -9223372036854775808 ≤ (L.length : Int) ∧ (L.length : Int) ≤ 9223372036854775807 := by omega
      obtain ⟨S, hS⟩ : ∃ S, S = asL xss := ⟨_, rfl⟩
      rw [← hS] at hA hK hKl
      have hSl : S.length ≤ 10 := by omega
      have hSB : agB S = true := agB_iff.2 ⟨hA, hSl⟩
      have hcan := ag_canon hA hSl
      have hbl : (aoL S).length = S.length := by rw [aoL, if_pos hSB, ivo_len]
      have hbi : isIv (S.length : Int) (aoL S) = true := by rw [aoL, if_pos hSB]; exact ivo_is (ag_good hA hSl)
      have hbm : moL (S.length : Int) (aoL S) = xss := by rw [aoL, if_pos hSB, hcan.2.2.1]; exact hK
      have HMO : Hid (∀ W, Rd W a3 L → Calls Tryz.prog 23 #[.agg #[.int .i64 (L.length : Int), .slice a3 L.length c3]] W fun e w' => ∃ a' c' vl, e = .returned (.tuple #[.agg #[.slice a' xss.length c'], .bool true]) ∧ RowsP w' W.heap.size (.slice a' xss.length c') vl xss ∧ Below W.heap.size W w') := fun W h => by
        have := iMxOrd_any (L.length : Int) a3 L c3 W hnn h
        rw [hmo, hiv] at this
        exact this
      have HAM : Hid (∀ W, RdC W a xss → Calls Tryz.prog 24 #[.agg #[.slice a xss.length cap]] W fun e w' => ∃ a' c', e = .returned (.tuple #[.slice a' S.length c', .bool true]) ∧ OwnI w' W.heap.size (.slice a' S.length c') S ∧ Below W.heap.size W w') := fun W h => by
        have := iAscM_any a xss cap W h hs
        rw [amL, if_pos hM, ← hS, hM] at this
        exact this
      have HAO : Hid (∀ W, Rd W a3 L → Calls Tryz.prog 18 #[.agg #[.int .i64 (L.length : Int), .slice a3 L.length c3]] W fun e w' => ∃ a'' c'', e = .returned (.tuple #[.slice a'' S.length c'', .bool true]) ∧ OwnI w' W.heap.size (.slice a'' S.length c'') S ∧ Below W.heap.size W w') := fun W h => by
        have := iAscOrd_any (L.length : Int) a3 L c3 W hnn h
        unfold GotI at this
        rw [aooL, hiv, if_pos rfl, hmo, amL, if_pos hM, ← hS] at this
        exact this
      have HOA : Hid (∀ W a' c', S.length ≤ c' → Rd W a' S → Calls Tryz.prog 11 #[.slice a' S.length c'] W fun e w' => ∃ a'' c'', e = .returned (.tuple #[.agg #[.int .i64 (S.length : Int), .slice a'' S.length c''], .bool true]) ∧ OwnI w' W.heap.size (.slice a'' S.length c'') (aoL S) ∧ Below W.heap.size W w') := fun W a' c' hc h => by
        have := iOrderAsc_any a' S c' W h hc
        unfold GotO at this
        rw [aoO, if_pos hSB, hSB, hbl] at this
        exact this
      have HAL : Hid (∀ W b' c', Rd W b' (aoL S) → Rd W a3 L → Calls Tryz.prog 25 #[.agg #[.int .i64 (S.length : Int), .slice b' S.length c'], .agg #[.int .i64 (L.length : Int), .slice a3 L.length c3]] W fun e w' => e = .returned (.tuple #[.bool true, .bool true]) ∧ Below W.heap.size W w') := fun W b' c' h h2 => by
        have := iAlike_any (S.length : Int) b' (aoL S) c' (L.length : Int) a3 L c3 W (by omega) h hnn h2
        have e5 : alkB (S.length : Int) (aoL S) (L.length : Int) L = true := by rw [alkB, hbi, hiv]; rfl
        have e6 : eqR xss xss = true := eqR_iff.2 ⟨rfl, fun k hk => by simp [eqL]⟩
        rw [alkV, e5, hbm, hmo, e6, hbl] at this
        exact this
      have hxl : xss.length ≤ 1048576 := by omega
      generalize aoL S = BL at HOA HAL
      clear hgb hM h10 hiv hmo hll hA hK hKl hS hSB hcan hbl hbi hbm HPE HLE HGE hGG q1
      go_wp2_with fail
      refine (HMO.out _ HC.out).mono ?_
      rintro e w6 ⟨a6, c6, l6, rfl, ho6, hb6⟩
      try clear zA cA
      try clear zX cX dX
      replace HB := Lib.hid (HB.out.trans (hb6.mono HB.out.size))
      replace HA := Lib.hid (HA.out.below hb6)
      replace HX := Lib.hid (HX.out.below hb6)
      replace HR := Lib.hid (HR.out.below hb6)
      replace HC := Lib.hid (HC.out.below hb6)
      have ⟨zA, cA⟩ := HA.out
      have ⟨zX, cX, dX⟩ := HX.out
      clear hb6
      have HU := Lib.hid ho6.rdC
      clear ho6 HMO
      have ba6 : Below w6.heap.size w6 (w6.alloc (.cells #[.slice a6 xss.length c6] 45)) := (Below.refl _ _).alloc (Nat.le_refl _) _
      have HK := Lib.hid (Box1.new w6 (.slice a6 xss.length c6) 45)
      replace HB := Lib.hid (HB.out.trans (ba6.mono HB.out.size))
      replace HA := Lib.hid (HA.out.below ba6)
      replace HX := Lib.hid (HX.out.below ba6)
      replace HR := Lib.hid (HR.out.below ba6)
      replace HC := Lib.hid (HC.out.below ba6)
      replace HU := Lib.hid (HU.out.below ba6)
      obtain ⟨v6, hv6⟩ : ∃ x : World, x = w6.alloc (.cells #[.slice a6 xss.length c6] 45) := ⟨_, rfl⟩
      have HV6 := Lib.hid hv6
      rw [← hv6] at HK HB HA HX HR HC HU
      clear ba6 hv6
      have cK := HK.out.2
      go_wp2_with fail
      rw [← HV6.out]
      try clear zA cA
      try clear zX cX dX
      clear cK
      have ⟨zA, cA⟩ := HA.out
      have ⟨zX, cX, dX⟩ := HX.out
      have ⟨zK, cK⟩ := HK.out
      refine (HAM.out _ HR.out).mono ?_
      rintro e w7 ⟨a7, c7, rfl, ho7, hb7⟩
      try clear zA cA
      try clear zX cX dX
      try clear zK cK
      replace HB := Lib.hid (HB.out.trans (hb7.mono HB.out.size))
      replace HA := Lib.hid (HA.out.below hb7)
      replace HX := Lib.hid (HX.out.below hb7)
      replace HK := Lib.hid (HK.out.below hb7)
      replace HR := Lib.hid (HR.out.below hb7)
      replace HC := Lib.hid (HC.out.below hb7)
      replace HU := Lib.hid (HU.out.below hb7)
      have ⟨zA, cA⟩ := HA.out
      have ⟨zX, cX, dX⟩ := HX.out
      have ⟨zK, cK⟩ := HK.out
      clear hb7
      have HV := Lib.hid ho7.rd
      have hcp7 := ho7.capLe
      clear ho7 HAM
      go_wp2_with fail
      refine (HAO.out _ HC.out).mono ?_
      rintro e w8 ⟨a8, c8, rfl, ho8, hb8⟩
      try clear zA cA
      try clear zX cX dX
      try clear zK cK
      replace HB := Lib.hid (HB.out.trans (hb8.mono HB.out.size))
      replace HA := Lib.hid (HA.out.below hb8)
      replace HX := Lib.hid (HX.out.below hb8)
      replace HK := Lib.hid (HK.out.below hb8)
      replace HR := Lib.hid (HR.out.below hb8)
      replace HC := Lib.hid (HC.out.below hb8)
      replace HU := Lib.hid (HU.out.below hb8)
      replace HV := Lib.hid (HV.out.below hb8)
      have ⟨zA, cA⟩ := HA.out
      have ⟨zX, cX, dX⟩ := HX.out
      have ⟨zK, cK⟩ := HK.out
      clear hb8
      have HW := Lib.hid ho8.rd
      clear ho8 HAO
      go_wp2_with fail
      refine (HOA.out _ _ _ hcp7 HV.out).mono ?_
      rintro e w9 ⟨a9, c9, rfl, ho9, hb9⟩
      try clear zA cA
      try clear zX cX dX
      try clear zK cK
      replace HB := Lib.hid (HB.out.trans (hb9.mono HB.out.size))
      replace HA := Lib.hid (HA.out.below hb9)
      replace HX := Lib.hid (HX.out.below hb9)
      replace HK := Lib.hid (HK.out.below hb9)
      replace HR := Lib.hid (HR.out.below hb9)
      replace HC := Lib.hid (HC.out.below hb9)
      replace HU := Lib.hid (HU.out.below hb9)
      replace HV := Lib.hid (HV.out.below hb9)
      replace HW := Lib.hid (HW.out.below hb9)
      have ⟨zA, cA⟩ := HA.out
      have ⟨zX, cX, dX⟩ := HX.out
      have ⟨zK, cK⟩ := HK.out
      clear hb9
      have HQ := Lib.hid ho9.rd
      clear ho9 HOA
      have ba9 : Below w9.heap.size w9 (w9.alloc (.cells #[.int .i64 (S.length : Int), .slice a9 S.length c9] 31)) := (Below.refl _ _).alloc (Nat.le_refl _) _
      have HZ := Lib.hid (Box2.new w9 (.int .i64 (S.length : Int)) (.slice a9 S.length c9) 31)
      replace HB := Lib.hid (HB.out.trans (ba9.mono HB.out.size))
      replace HA := Lib.hid (HA.out.below ba9)
      replace HX := Lib.hid (HX.out.below ba9)
      replace HK := Lib.hid (HK.out.below ba9)
      replace HR := Lib.hid (HR.out.below ba9)
      replace HC := Lib.hid (HC.out.below ba9)
      replace HU := Lib.hid (HU.out.below ba9)
      replace HV := Lib.hid (HV.out.below ba9)
      replace HW := Lib.hid (HW.out.below ba9)
      replace HQ := Lib.hid (HQ.out.below ba9)
      obtain ⟨v9, hv9⟩ : ∃ x : World, x = w9.alloc (.cells #[.int .i64 (S.length : Int), .slice a9 S.length c9] 31) := ⟨_, rfl⟩
      have HV9 := Lib.hid hv9
      rw [← hv9] at HZ HB HA HX HK HR HC HU HV HW HQ
      clear ba9 hv9
      have cZ := HZ.out.2
      go_wp2_with fail
      rw [← HV9.out]
      try clear zA cA
      try clear zX cX dX
      try clear zK cK
      clear cZ
      have ⟨zA, cA⟩ := HA.out
      have ⟨zX, cX, dX⟩ := HX.out
      have ⟨zK, cK⟩ := HK.out
      have ⟨zZ, cZ, dZ⟩ := HZ.out
      refine (HAL.out _ _ _ HQ.out HC.out).mono ?_
      rintro e w10 ⟨rfl, hb10⟩
      try clear zA cA
      try clear zX cX dX
      try clear zK cK
      try clear zZ cZ dZ
      replace HB := Lib.hid (HB.out.trans (hb10.mono HB.out.size))
      replace HA := Lib.hid (HA.out.below hb10)
      replace HX := Lib.hid (HX.out.below hb10)
      replace HK := Lib.hid (HK.out.below hb10)
      replace HZ := Lib.hid (HZ.out.below hb10)
      replace HR := Lib.hid (HR.out.below hb10)
      replace HC := Lib.hid (HC.out.below hb10)
      replace HU := Lib.hid (HU.out.below hb10)
      replace HV := Lib.hid (HV.out.below hb10)
      replace HW := Lib.hid (HW.out.below hb10)
      replace HQ := Lib.hid (HQ.out.below hb10)
      have ⟨zA, cA⟩ := HA.out
      have ⟨zX, cX, dX⟩ := HX.out
      have ⟨zK, cK⟩ := HK.out
      have ⟨zZ, cZ, dZ⟩ := HZ.out
      clear hb10
      go_wp2_with fail
      refine ((pSameM_same a6 a xss c6 cap _ HU.out HR.out hxl)).mono ?_
      rintro e w11 ⟨rfl, hb11⟩
      try clear zA cA
      try clear zX cX dX
      try clear zK cK
      try clear zZ cZ dZ
      replace HB := Lib.hid (HB.out.trans (hb11.mono HB.out.size))
      replace HA := Lib.hid (HA.out.below hb11)
      replace HX := Lib.hid (HX.out.below hb11)
      replace HK := Lib.hid (HK.out.below hb11)
      replace HZ := Lib.hid (HZ.out.below hb11)
      replace HR := Lib.hid (HR.out.below hb11)
      replace HC := Lib.hid (HC.out.below hb11)
      replace HU := Lib.hid (HU.out.below hb11)
      replace HV := Lib.hid (HV.out.below hb11)
      replace HW := Lib.hid (HW.out.below hb11)
      replace HQ := Lib.hid (HQ.out.below hb11)
      have ⟨zA, cA⟩ := HA.out
      have ⟨zX, cX, dX⟩ := HX.out
      have ⟨zK, cK⟩ := HK.out
      have ⟨zZ, cZ, dZ⟩ := HZ.out
      clear hb11
      go_wp2_with fail
      refine ((pSame_any a8 a7 S S c8 c7 _ HW.out HV.out)).mono ?_
      rw [HEL.out]
      rintro e w12 ⟨rfl, hb12⟩
      try clear zA cA
      try clear zX cX dX
      try clear zK cK
      try clear zZ cZ dZ
      replace HB := Lib.hid (HB.out.trans (hb12.mono HB.out.size))
      replace HA := Lib.hid (HA.out.below hb12)
      replace HX := Lib.hid (HX.out.below hb12)
      replace HK := Lib.hid (HK.out.below hb12)
      replace HZ := Lib.hid (HZ.out.below hb12)
      replace HR := Lib.hid (HR.out.below hb12)
      replace HC := Lib.hid (HC.out.below hb12)
      replace HU := Lib.hid (HU.out.below hb12)
      replace HV := Lib.hid (HV.out.below hb12)
      replace HW := Lib.hid (HW.out.below hb12)
      replace HQ := Lib.hid (HQ.out.below hb12)
      have ⟨zA, cA⟩ := HA.out
      have ⟨zX, cX, dX⟩ := HX.out
      have ⟨zK, cK⟩ := HK.out
      have ⟨zZ, cZ, dZ⟩ := HZ.out
      clear hb12
      go_wp2_with fail
      go_ret
      exact ⟨rfl, HB.out⟩

theorem rd_of_trod {H : Type} {enc : TypeId × Value → H} {W : World} {fuel : Nat} {c : Value} {y : DataW H × List MemPlace}
    (h : DataW.trod enc Tryz.prog W 0 (fun _ => true) true fuel 24 [c] = some y) : ∃ (a : Option Addr) (xs : List Int) (cap : Nat), c = .slice a xs.length cap ∧ Rd W a xs ∧ ∀ k, k < xs.length → (Lit.int .i64 (nth xs k)).wf = true := by
  rcases Go.ChangeShapes.open_ints Tryz.underlying24 Tryz.underlying3 (by kernel_rfl) h with ⟨hcs, _⟩ | ⟨x, len, cap, zs, hcs, _, hl, hm, hz, _, hcell, hwf⟩
  · simp only [List.cons.injEq, and_true] at hcs
    exact ⟨none, [], 0, hcs, ⟨by simp, fun k hk => by simp at hk⟩, fun k hk => by simp at hk⟩
  · simp only [List.cons.injEq, and_true] at hcs
    simp only [if_true] at hz
    have hlen : (zs.take len).length = len := by rw [List.length_take]; omega
    have hn : ∀ k, k < len → nth (zs.take len) k = zs.getD k 0 := by
      intro k hk
      simp only [nth, List.getD_eq_getElem?_getD, List.getElem?_take, hk, if_true]
    refine ⟨some x, zs.take len, cap, by rw [hlen]; exact hcs, ⟨by rw [hlen]; unfold maxLen at hm; omega, fun k hk => ?_⟩, fun k hk => ?_⟩
    · rw [hlen] at hk
      obtain ⟨b, off, sp⟩ := x
      have h0 := hcell 0 (by omega)
      have hsp : sp = none := by simpa [Addr.add] using World.cell?_spot h0
      subst hsp
      have hk' := hcell k (by omega)
      rw [Addr.add_lit] at hk'
      exact ⟨b, off, rfl, World.block_lt_of_cell? _ _ h0, by rw [hk', hn k hk]⟩
    · rw [hlen] at hk
      rw [hn k hk]
      have hk2 : k < zs.length := by omega
      exact hwf _ (by rw [List.getD_eq_getElem?_getD, List.getElem?_eq_getElem hk2]; exact List.getElem_mem hk2)

theorem own : ownKnob Tryz.prog.godebug = none := by kernel_rfl
theorem laidOut : laidOutB Tryz.prog = true := by kernel_rfl
theorem wf_bd {n : Int} (h : (Lit.int .i64 n).wf = true) : -9223372036854775808 ≤ n ∧ n ≤ 9223372036854775807 := by
  simp [Lit.wf, IntKind.min, IntKind.max, IntKind.bits, IntKind.signed] at h
  omega

theorem wf_byte {n : Int} (h : (Lit.int .u8 n).wf = true) : 0 ≤ n ∧ n ≤ 255 := by
  simp [Lit.wf, IntKind.min, IntKind.max, IntKind.bits, IntKind.signed] at h
  omega
/-- a slice of bytes that was handed over -/
theorem rdB_of_trod {H : Type} {enc : TypeId × Value → H} {W : World} {fuel : Nat} {c : Value} {y : DataW H × List MemPlace}
    (h : DataW.trod enc Tryz.prog W 0 (fun _ => true) true fuel 22 [c] = some y) : ∃ (a : Option Addr) (n cap : Nat), c = .slice a n cap ∧ RdB W a n ∧ n ≤ 9223372036854775807 := by
  rcases Go.ChangeShapes.open_ints Tryz.underlying22 Tryz.underlying5 (by kernel_rfl) h with ⟨hcs, _⟩ | ⟨x, len, cap, zs, hcs, _, hl, hm, hz, _, hcell, hwf⟩
  · simp only [List.cons.injEq, and_true] at hcs
    exact ⟨none, 0, 0, hcs, ⟨fun k hk => by omega⟩, by omega⟩
  · simp only [List.cons.injEq, and_true] at hcs
    simp only [if_true] at hz
    refine ⟨some x, len, cap, hcs, ⟨fun k hk => ?_⟩, by unfold maxLen at hm; omega⟩
    obtain ⟨b, off, sp⟩ := x
    have h0 := hcell 0 (by omega)
    have hsp : sp = none := by simpa [Addr.add] using World.cell?_spot h0
    subst hsp
    have hk' := hcell k (by omega)
    rw [Addr.add_lit] at hk'
    have hk2 : k < zs.length := by omega
    have hw := hwf _ (show zs.getD k 0 ∈ zs by rw [List.getD_eq_getElem?_getD, List.getElem?_eq_getElem hk2]; exact List.getElem_mem hk2)
    refine ⟨b, off, rfl, World.block_lt_of_cell? _ _ h0, zs.getD k 0, hk', ?_⟩
    exact wf_byte hw

open Go.ChangeShapes Go.WideShapes Go.ChangeAt Go.RowKit in
set_option maxRecDepth 100000 in
theorem lifted (os : Os) (started : os.Started) (H : Type) (enc : TypeId × Value → H) :
    ReturnsInHanded {} Tryz.checked os 4 .any (Rows.fnOrdersAreMatricesSpec.pre6 enc Tryz.prog Tryz.f4 Rows.fnOrdersAreMatricesRow.domain false) (Rows.fnOrdersAreMatricesSpec.post enc Tryz.prog Tryz.f4 false true false false) := by
  refine returnsInHanded_of_change (C := Tryz.checked) own started (by kernel_rfl) Tryz.func4
    (ChangeSpec.witness6 (enc := enc) (C := Tryz.checked) false ⟨#[], #[.slice none 0 0, .slice none 0 0], []⟩ 8 (by kernel_rfl) (by kernel_rfl) (by kernel_rfl) (by kernel_rfl)) ?_
  intro W base args ds gs before hval0 hW hcnd _
  have hval : ∀ (j : Nat) t v, Tryz.f4.params[j]? = some t → args[j]? = some v → Value.okWide Tryz.prog W .any base t v := hval0
  have hW' := hW
  obtain ⟨p, q, hA0, hV, rfl, hfz, hnd⟩ := hW
  have hA : DataW.TrodAll enc Tryz.prog W 0 (fun _ => true) true Tryz.f4.params.toList args.toList ds p := hA0
  rw [Tryz.params4] at hA hval
  obtain ⟨v0, vs0, d0, ds0, p0, q0, hargs, rfl, rfl, h0, r0⟩ := trodAll_cons hA
  obtain ⟨v1, vs1, d1, ds1, p1, q1, rfl, rfl, rfl, h1, r1⟩ := trodAll_cons r0
  obtain ⟨rfl, rfl, rfl⟩ := trodAll_nil r1
  obtain rfl : args = #[v0, v1] := by cases args; simp_all
  obtain ⟨rfl, rfl⟩ := trodVars_none hV
  have lt0 : ∀ x ∈ p0, x.block < W.heap.size := by obtain ⟨m, hm⟩ := h0; exact DataW.trod_lt m _ _ _ hm
  have lt1 : ∀ x ∈ p1, x.block < W.heap.size := by obtain ⟨m, hm⟩ := h1; exact DataW.trod_lt m _ _ _ hm
  obtain ⟨a0, len0, cap0, rfl⟩ := okWide_slice Tryz.underlying22 (hval 0 22 v0 rfl rfl)
  obtain ⟨a0, n0, cap0, e0, rd0, ln0⟩ := (by obtain ⟨fu, hf⟩ := h0; simp only [Value.cells] at hf; exact rdB_of_trod hf : ∃ (a : Option Addr) (n cap : Nat), Value.slice a0 len0 cap0 = .slice a n cap ∧ RdB W a n ∧ n ≤ 9223372036854775807)
  simp only [Value.slice.injEq] at e0
  obtain ⟨rfl, rfl, rfl⟩ := e0
  obtain ⟨a1, len1, cap1, rfl⟩ := okWide_slice Tryz.underlying22 (hval 1 22 v1 rfl rfl)
  obtain ⟨a1, n1, cap1, e1, rd1, ln1⟩ := (by obtain ⟨fu, hf⟩ := h1; simp only [Value.cells] at hf; exact rdB_of_trod hf : ∃ (a : Option Addr) (n cap : Nat), Value.slice a1 len1 cap1 = .slice a n cap ∧ RdB W a n ∧ n ≤ 9223372036854775807)
  simp only [Value.slice.injEq] at e1
  obtain ⟨rfl, rfl, rfl⟩ := e1
  clear hA0 hval0
  refine (walk a0 len0 cap0 a1 len1 cap1 W rd0 ln0 rd1 ln1).mono fun e W' ⟨he, bel⟩ => ?_
  subst he
  exact ⟨_, rfl, _, _, _, [], _, [], hW', trodAll_mk1 (shut_bool Tryz.underlying4 _), (trodAll_cons_mk (Below.trod laidOut (by kernel_rfl) (of_decide_eq_true (by kernel_rfl)) h0 bel lt0) (trodAll_cons_mk (Below.trod laidOut (by kernel_rfl) (of_decide_eq_true (by kernel_rfl)) h1 bel lt1) trodAll_mk0)), rfl, bel.frame _, fun h => by cases h⟩
theorem proved : Rows.FnOrdersAreMatricesSaid :=
  OpenClaim.holds_of_wide 4 Tryz.f4 rfl rfl rfl rfl rfl rfl rfl ⟨rfl, rfl, rfl, rfl, rfl⟩ rfl rfl rfl rfl rfl (by kernel_rfl) Tryz.func4 (by kernel_rfl)
    (of_decide_eq_true (by kernel_rfl)) (by unfold Func.isWrapper; first | (rw [if_pos (by decide +kernel)]; kernel_rfl) | (rw [if_neg (by decide +kernel)]; exact ⟨rfl, rfl⟩))
    (fun os started H enc _ => lifted os started H enc)

end Go.Proofs.YtiodfmiielnngaaGreat.ordersAreMatrices
