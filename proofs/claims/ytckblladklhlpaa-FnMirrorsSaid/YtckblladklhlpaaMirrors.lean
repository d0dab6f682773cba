/- PROVED: the law FnMirrors returns true for every input, and each of its arguments reads afterwards as before. No conditions. -/
import Derived.Test.YtckblladklhlpaaRows
import Derived.WalkKit
import Derived.WalkSpells
import Derived.WalkLawsBesides
import Derived.Deep.QuietTactic
import Derived.BigQuiet
import Derived.ProofKit
import Derived.OpenShut
import Derived.ShutString
import Derived.ChangeOld
import Derived.Below
import Derived.Lib.SmallJoins
import Derived.Lib.Hide
import Derived.Maps.AppendAt
import Derived.Deep.AppendLies
import Derived.Deep.RegionHeld3
import Derived.Deep.DeepCutAuto
import Derived.StillTail
import Derived.Deep.RegionLaw
import Derived.Test.YtckblladklhlpaaMirrorsP1
namespace Go.Proofs.Ytckblladklhlpaa.mirrors
open Go Go.RowKit
set_option linter.unusedVariables false
set_option linter.unusedSimpArgs false
set_option maxHeartbeats 400000
set_option maxRecDepth 100000 in
set_option maxHeartbeats 4000000 in
theorem walk (a0 : Option Addr) (n0 cap0 : Nat) (a1 : Option Addr) (n1 cap1 : Nat) (w : World) (hR0 : RdB w a0 n0) (hl0 : n0 ≤ 9223372036854775807) (hR1 : RdB w a1 n1) (hl1 : n1 ≤ 9223372036854775807) :
    Calls Try.prog 3 #[.slice a0 n0 cap0, .slice a1 n1 cap1] w fun e w' => e = .returned (.bool true) ∧ Below w.heap.size w w' := by
  go_enter Try.func3, Try.ntmps3
  go_wp2_with fail
  refine (big_any _ _ _ _ _ _ _ hl0 hl1).mono ?_
  rintro e w' ⟨he, rfl⟩
  rcases he with rfl | ⟨rfl, hb0, hb1⟩
  · go_wp2_with fail
    go_ret
    exact ⟨rfl, (by repeat (first | exact Below.refl _ _ | assumption | refine Below.alloc ?_ (by first | exact Nat.le_refl _ | (simp only [World.size_alloc, World.size_setCell, World.size_drew]; omega) | omega) _ | refine Below.setCell ?_ (by first | exact Nat.le_refl _ | (simp only [World.size_alloc, World.size_setCell, World.size_drew]; omega) | omega) _ | refine Below.drew ?_))⟩
  · go_wp2_with fail
    refine (drMirror_any _ _ _ _ hR0 hb0).mono ?_
    rintro e w1 ⟨n, a, cap, xs, rfl, ho, hl, hn0, hn1, hx, hb⟩
    have HR1 := Lib.hid (ho.rd)
    have HB1 := Lib.hid hb
    have hs1 := hb.size
    have hnn : -9223372036854775808 ≤ n ∧ n ≤ 9223372036854775807 := by omega
    clear hx ho hb hR0 hR1 hl0 hl1 hb0 hb1
    have HO := Lib.hid (Box2.new w1 (.int .i64 n) (.slice a xs.length cap) 26)
    have HB2 := Lib.hid (HB1.out.alloc hs1 (.cells #[.int .i64 n, .slice a xs.length cap] 26))
    have HR2 := Lib.hid (HR1.out.alloc (.cells #[.int .i64 n, .slice a xs.length cap] 26))
    obtain ⟨w2, hw2⟩ : ∃ x : World, x = w1.alloc (.cells #[.int .i64 n, .slice a xs.length cap] 26) := ⟨_, rfl⟩
    have hcO := HO.out.2
    have HW2 := Lib.hid hw2
    rw [← hw2] at HO HB2 HR2 hcO
    clear hw2
    go_wp2_with fail
    rw [← HW2.out]
    have HI := Lib.hid (iMirrorOf_any n a xs cap w2 hnn HR2.out)
    unfold GotO at HI
    cases hr : relB n xs
    · have e1 : mirN n xs = 0 := by simp [mirN, hr]
      have e2 : mirL n xs = [] := by simp [mirL, hr]
      rw [e1, e2, hr] at HI
      have HS := Lib.hid (fun W (h : Rd W a xs) => sMirrorOf_any n a xs cap W hnn h)
      unfold GotO at HS
      rw [e1, e2, hr] at HS
      have HE : Hid (eqO 0 [] 0 [] = true) := eqO_refl _ _
      clear hr e1 e2
      refine HI.out.mono ?_
      rintro e w3 ⟨am, cm, rfl, hom, hb3⟩
      have hs3 := hb3.size
      have hO3 := HO.out.below hb3
      have HB3 := Lib.hid (HB2.out.trans (hb3.mono HB2.out.size))
      have HR3 := Lib.hid (HR2.out.below hb3)
      have ⟨zO3, cO3, dO3⟩ := hO3
      clear hb3 HI hom
      go_wp2_with fail
      refine (HS.out _ (HR3.out.alloc _)).mono ?_
      rintro e w4 ⟨aq, cs, rfl, hos, hb4⟩
      have hs4 := hb4.size
      rw [World.size_alloc] at hs4
      have hM4 := (Box2.new w3 (.int .i64 0) (.slice am 0 cm) 26).below hb4
      have ⟨zM4, cM4, dM4⟩ := hM4
      have bw4 : Below w.heap.size w w4 := (HB3.out.alloc HB3.out.size (.cells #[.int .i64 0, .slice am 0 cm] 26)).trans (hb4.mono (by have := HB3.out.size; simp; omega))
      have HB4 := Lib.hid bw4
      clear hb4 hos hM4 bw4
      go_wp2_with fail
      refine (pSameO_any 0 0 am aq [] [] cm cs _ ⟨by simp, fun k hk => by simp at hk⟩ ⟨by simp, fun k hk => by simp at hk⟩).mono ?_
      rw [HE.out]
      rintro e w5 ⟨rfl, hb5⟩
      have bw5 : Below w.heap.size w w5 := (HB4.out.alloc HB4.out.size (.cells #[.int .i64 0, .slice aq 0 cs] 26)).trans (hb5.mono (by have := HB4.out.size; simp; omega))
      clear hb5
      go_wp2_with fail
      go_ret
      exact ⟨rfl, bw5⟩
    · have hp := relB_p hr
      obtain rfl : n = (xs.length : Int) := hp.len.symm
      have h10 : xs.length ≤ 10 := hl
      have hl' : (belows xs xs.length).length = xs.length := belows_len _ _
      have e1 : mirN (xs.length : Int) xs = (xs.length : Int) := by simp [mirN, hr]
      have e2 : mirL (xs.length : Int) xs = belows xs xs.length := by simp [mirL, hr]
      have hrm := rel_mir hr
      have HMM := Lib.hid (mir_mir hr)
      have HRR := Lib.hid hr
      have HRM := Lib.hid hrm
      rw [e1, e2, hr, hl'] at HI
      have HS := Lib.hid (fun W (h : Rd W a xs) => sMirrorOf_any (xs.length : Int) a xs cap W hnn h)
      unfold GotO at HS
      rw [e1, e2, hr, hl'] at HS
      clear hr e1 e2 hrm
      obtain ⟨ys, hys⟩ : ∃ ys, ys = belows xs xs.length := ⟨_, rfl⟩
      have HYS := Lib.hid hys
      rw [← hys] at HI HS hl' HRM HMM
      have HLY := Lib.hid hl'
      clear hys hl'
      refine HI.out.mono ?_
      rintro e w3 ⟨am, cm, rfl, hom, hb3⟩
      have hs3 := hb3.size
      have hO3 := HO.out.below hb3
      have bw3 := HB2.out.trans (hb3.mono HB2.out.size)
      have hR3 := HR2.out.below hb3
      have hY3 := hom.rd
      have ⟨zO3, cO3, dO3⟩ := hO3
      have hN3 := Box2.new w3 (.int .i64 (xs.length : Int)) (.slice am xs.length cm) 26
      have ba3 : Below w3.heap.size w3 (w3.alloc (.cells #[.int .i64 (xs.length : Int), .slice am xs.length cm] 26)) := (by repeat (first | exact Below.refl _ _ | assumption | refine Below.alloc ?_ (by first | exact Nat.le_refl _ | (simp only [World.size_alloc, World.size_setCell, World.size_drew]; omega) | omega) _ | refine Below.setCell ?_ (by first | exact Nat.le_refl _ | (simp only [World.size_alloc, World.size_setCell, World.size_drew]; omega) | omega) _ | refine Below.drew ?_))
      have HO4 := Lib.hid (hO3.below ba3)
      have HB4 := Lib.hid (bw3.trans (ba3.mono bw3.size))
      have HR4 := Lib.hid (hR3.below ba3)
      have HY4 := Lib.hid (hY3.below ba3)
      have HM4 := Lib.hid hN3
      clear hb3 HI hom hN3 ba3 hR3 hY3 bw3 hO3
      go_wp2_with fail
      refine (HS.out _ HR4.out).mono ?_
      rintro e w5 ⟨aq, cq, rfl, hoq, hb5⟩
      have hs5 := hb5.size
      rw [World.size_alloc] at hs5
      have hO5 := HO4.out.below hb5
      have hM5 := HM4.out.below hb5
      have ⟨zO5, cO5, dO5⟩ := hO5
      have ⟨zM5, cM5, dM5⟩ := hM5
      have bw5 := HB4.out.trans (hb5.mono HB4.out.size)
      have ba5 : Below w5.heap.size w5 (w5.alloc (.cells #[.int .i64 (xs.length : Int), .slice aq xs.length cq] 26)) := (by repeat (first | exact Below.refl _ _ | assumption | refine Below.alloc ?_ (by first | exact Nat.le_refl _ | (simp only [World.size_alloc, World.size_setCell, World.size_drew]; omega) | omega) _ | refine Below.setCell ?_ (by first | exact Nat.le_refl _ | (simp only [World.size_alloc, World.size_setCell, World.size_drew]; omega) | omega) _ | refine Below.drew ?_))
      have HO6 := Lib.hid (hO5.below ba5)
      have HM6 := Lib.hid (hM5.below ba5)
      have HB6 := Lib.hid (bw5.trans (ba5.mono bw5.size))
      have HR6 := Lib.hid ((HR4.out.below hb5).below ba5)
      have HY6 := Lib.hid ((HY4.out.below hb5).below ba5)
      have HQ6 := Lib.hid (hoq.rd.below ba5)
      have HE := Lib.hid (eqO_refl (xs.length : Int) ys)
      have HPS := Lib.hid (pSameO_any (xs.length : Int) (xs.length : Int) am aq ys ys cm cq _ HY6.out HQ6.out)
      rw [HLY.out, HE.out] at HPS
      clear hb5 hoq hO5 hM5 bw5 ba5 HS HO4 HM4 HB4 HR4 HY4
      go_wp2_with fail
      refine HPS.out.mono ?_
      rintro e w7 ⟨rfl, hb7⟩
      have hs7 := hb7.size
      rw [World.size_alloc] at hs7
      have hO7 := HO6.out.below hb7
      have hM7 := HM6.out.below hb7
      have ⟨zO7, cO7, dO7⟩ := hO7
      have ⟨zM7, cM7, dM7⟩ := hM7
      have HO7 := Lib.hid hO7
      have HM7 := Lib.hid hM7
      have HB7 := Lib.hid (HB6.out.trans (hb7.mono HB6.out.size))
      have HR7 := Lib.hid (HR6.out.below hb7)
      have HY7 := Lib.hid (HY6.out.below hb7)
      have HI2 := Lib.hid (iMirrorOf_any (xs.length : Int) am ys cm w7 hnn HY7.out)
      unfold GotO at HI2
      rw [show mirN (xs.length : Int) ys = (xs.length : Int) by simp [mirN, HRM.out], show mirL (xs.length : Int) ys = xs by rw [mirL, HRM.out, if_pos rfl]; exact HMM.out, HRM.out, HLY.out] at HI2
      clear hb7 hO7 hM7 HPS HO6 HM6 HB6 HR6 HY6 HQ6
      go_wp2_with fail
      refine HI2.out.mono ?_
      rintro e w8 ⟨ab, cb, rfl, hob, hb8⟩
      have hs8 := hb8.size
      have hO8 := HO7.out.below hb8
      have hM8 := HM7.out.below hb8
      have ba8 : Below w8.heap.size w8 (w8.alloc (.cells #[.int .i64 (xs.length : Int), .slice ab xs.length cb] 26)) := (by repeat (first | exact Below.refl _ _ | assumption | refine Below.alloc ?_ (by first | exact Nat.le_refl _ | (simp only [World.size_alloc, World.size_setCell, World.size_drew]; omega) | omega) _ | refine Below.setCell ?_ (by first | exact Nat.le_refl _ | (simp only [World.size_alloc, World.size_setCell, World.size_drew]; omega) | omega) _ | refine Below.drew ?_))
      have hO9 := hO8.below ba8
      have hM9 := hM8.below ba8
      have hK9 := Box2.new w8 (.int .i64 (xs.length : Int)) (.slice ab xs.length cb) 26
      have ⟨zO9, cO9, dO9⟩ := hO9
      have ⟨zM9, cM9, dM9⟩ := hM9
      have bw8 := HB7.out.trans (hb8.mono HB7.out.size)
      have hK8 := hob.rd
      obtain ⟨W9, hW9⟩ : ∃ x : World, x = w8.alloc (.cells #[.int .i64 (xs.length : Int), .slice ab xs.length cb] 26) := ⟨_, rfl⟩
      have HW9 := Lib.hid hW9
      rw [← hW9] at ba8 hO9 hM9 hK9 cO9 dO9 cM9 dM9 zO9 zM9
      have ⟨zK9, cK9, dK9⟩ := hK9
      have HR9 := Lib.hid ((HR7.out.below hb8).below ba8)
      have HY9 := Lib.hid ((HY7.out.below hb8).below ba8)
      have HX9 := Lib.hid (hK8.below ba8)
      have HB9 := Lib.hid (bw8.trans (ba8.mono bw8.size))
      have HO9 := Lib.hid hO9
      have HM9 := Lib.hid hM9
      have HK9 := Lib.hid hK9
      have hs9 := ba8.size
      have HEX := Lib.hid (eqO_refl (xs.length : Int) xs)
      have HPK : Hid (∀ W, Below W9.heap.size W9 W → Calls Try.prog 14 #[.agg #[.int .i64 (xs.length : Int), .slice ab xs.length cb], .agg #[.int .i64 (xs.length : Int), .slice a xs.length cap]] W fun e w' => e = .returned (.bool true) ∧ Below W.heap.size W w') := fun W hW => by
        have := pSameO_any (xs.length : Int) (xs.length : Int) ab a xs xs cb cap W (HX9.out.below hW) (HR9.out.below hW)
        rw [HEX.out] at this
        exact this
      obtain ⟨B, hB⟩ : ∃ B, B = ordB (xs.length : Int) xs := ⟨_, rfl⟩
      have hBm : ordB (xs.length : Int) ys = B := by rw [hB, HYS.out]; exact ord_mir HRR.out
      have HIO : Hid (∀ W, Below W9.heap.size W9 W → Calls Try.prog 15 #[.agg #[.int .i64 (xs.length : Int), .slice a xs.length cap]] W fun e w' => e = .returned (.bool B) ∧ Below W.heap.size W w') := fun W hW => by
        have := iIsOrder_any (xs.length : Int) a xs cap W hnn (HR9.out.below hW)
        rw [← hB] at this
        exact this
      have HIM : Hid (∀ W, Below W9.heap.size W9 W → Calls Try.prog 15 #[.agg #[.int .i64 (xs.length : Int), .slice am xs.length cm]] W fun e w' => e = .returned (.bool B) ∧ Below W.heap.size W w') := fun W hW => by
        have := iIsOrder_any (xs.length : Int) am ys cm W hnn (HY9.out.below hW)
        rw [hBm, HLY.out] at this
        exact this
      have hbb : (B != B) = false := by simp
      have HBB := Lib.hid hB
      clear hb8 hob hO8 hM8 hO9 hM9 hK9 bw8 hK8 HI2 HO7 HM7 HB7 HR7 HY7 ba8 hB hBm hW9
      go_wp2_with fail
      rw [← HW9.out]
      go_region_held3 (fun w' => w'.cell? ⟨w1.heap.size, 0, none⟩ = some (.int .i64 (xs.length : Int)) ∧ w'.cell? ⟨w1.heap.size, 1, none⟩ = some (.slice a xs.length cap) ∧ w'.cell? ⟨w3.heap.size, 0, none⟩ = some (.int .i64 (xs.length : Int)) ∧ w'.cell? ⟨w3.heap.size, 1, none⟩ = some (.slice am xs.length cm) ∧ w'.cell? ⟨w8.heap.size, 0, none⟩ = some (.int .i64 (xs.length : Int)) ∧ w'.cell? ⟨w8.heap.size, 1, none⟩ = some (.slice ab xs.length cb))
        (first | exact ⟨QOc.2.1, QOc.2.2, QMc.2.1, QMc.2.2, QKc.2.1, QKc.2.2⟩ | exact ⟨QOb.2.1, QOb.2.2, QMb.2.1, QMb.2.2, QKb.2.1, QKb.2.2⟩ | exact ⟨QOa.2.1, QOa.2.2, QMa.2.1, QMa.2.2, QKa.2.1, QKa.2.2⟩ | go_keep)
        (first | (have _g := htb; go_at_call 15; refine (HIM.out _ htb).mono ?_; rintro e wc ⟨rfl, hbc⟩; have htc : Below W9.heap.size W9 wc := htb.trans (hbc.mono htb.size); have QOc := HO9.out.below htc; have QMc := HM9.out.below htc; have QKc := HK9.out.below htc; clear hbc) | (have _g := hta; go_at_call 15; refine (HIO.out _ hta).mono ?_; rintro e wb ⟨rfl, hbb⟩; have htb : Below W9.heap.size W9 wb := hta.trans (hbb.mono hta.size); have QOb := HO9.out.below htb; have QMb := HM9.out.below htb; have QKb := HK9.out.below htb; clear hbb) | (go_at_call 14; refine (HPK.out _ (Joins.below_draws _ _ _)).mono ?_; rintro e wa ⟨rfl, hba⟩; have hta : Below W9.heap.size W9 wa := (Joins.below_draws _ _ _).trans hba; have QOa := HO9.out.below hta; have QMa := HM9.out.below hta; have QKa := HK9.out.below hta; clear hba))
      go_wp2_with fail
      have hsc := htc.size
      have HTC := Lib.hid htc
      have HBC := Lib.hid (HB9.out.trans (htc.mono HB9.out.size))
      have hOC := HO9.out.below htc
      have ⟨zOC, cOC, dOC⟩ := hOC
      clear QOa QOb QOc QMa QMb QMc QKa QKb QKc hta htb HPK HIO HIM
      go_wp2_with fail
      go_loopw [71] (fun i wr => ∃ k : Nat, k ≤ xs.length ∧ i = .int .i64 k ∧ Below W9.heap.size W9 wr) (fun i _ => xs.length - (intOf i).toNat)
      case atStart => exact ⟨0, Nat.zero_le _, rfl, HTC.out⟩
      case round =>
        obtain ⟨k, hk, rfl, hb⟩ := hrel
        by_cases hlt : k < xs.length
        · have k1 : (k : Int) < (xs.length : Int) := by omega
          have hly : k < ys.length := by rw [HLY.out]; exact hlt
          have hO := HO9.out.below hb
          have ⟨zO, cO, dO⟩ := hO
          have HBW := Lib.hid hb
          have hok : okE (xs.length : Int) xs (k : Int) = true := by simp [okE, HRR.out, elemB]; omega
          have hoky : okE (xs.length : Int) ys (k : Int) = true := by simp [okE, HRM.out, elemB]; omega
          have hz : belowF (xs.length : Int) xs (k : Int) = nth ys k := by rw [belowF, hok, if_pos rfl, HYS.out, nth_belows hlt]
          have hq : indF (xs.length : Int) xs (k : Int) = ((freeN xs k : Nat) : Int) := by rw [indF, hok, if_pos rfl, Int.toNat_natCast]
          have hq2 : indF (xs.length : Int) ys (k : Int) = ((freeN xs k : Nat) : Int) := by rw [indF, hoky, if_pos rfl, Int.toNat_natCast, HYS.out, free_mir HRR.out hlt]
          have hpy := relB_p HRM.out
          have hz0 := hpy.pos k hly
          have hz1 := hpy.small k hly
          have hfq := free_small h10 k
          have HFB : Hid (∀ j, j < xs.length → hasB ((freeN xs k : Nat) : Int) j = !(hasB (nth xs k) j || hasB (nth xs j) k || decide (k = j))) := fun j hj => by
            rw [← free_bit HRR.out hlt hj]; simp [hasB]
          have HMB : Hid (∀ j, j < xs.length → hasB (nth ys k) j = hasB (nth xs j) k) := fun j hj => by rw [HYS.out]; exact mir_bit hlt hj
          have HC1 : Hid (∀ W, Below W9.heap.size W9 W → Calls Try.prog 16 #[.agg #[.int .i64 (xs.length : Int), .slice a xs.length cap], .int .i64 (k : Int)] W fun e w' => e = .returned (.tuple #[.int .i64 (nth ys k), .bool true]) ∧ Below W.heap.size W w') := fun W hW => by
            have := iBelowOf_any (xs.length : Int) a xs cap (k : Int) W hnn (HR9.out.below hW) (by omega)
            rw [hz, hok] at this
            exact this
          have HC2 : Hid (∀ W, Below W9.heap.size W9 W → Calls Try.prog 17 #[.agg #[.int .i64 (xs.length : Int), .slice a xs.length cap], .int .i64 (k : Int)] W fun e w' => e = .returned (.tuple #[.int .i64 ((freeN xs k : Nat) : Int), .bool true]) ∧ Below W.heap.size W w') := fun W hW => by
            have := iIndifferentTo_any (xs.length : Int) a xs cap (k : Int) W hnn (HR9.out.below hW) (by omega)
            rw [hq, hok] at this
            exact this
          have HC3 : Hid (∀ W, Below W9.heap.size W9 W → Calls Try.prog 17 #[.agg #[.int .i64 (xs.length : Int), .slice am xs.length cm], .int .i64 (k : Int)] W fun e w' => e = .returned (.tuple #[.int .i64 ((freeN xs k : Nat) : Int), .bool true]) ∧ Below W.heap.size W w') := fun W hW => by
            have := iIndifferentTo_any (xs.length : Int) am ys cm (k : Int) W hnn (HY9.out.below hW) (by omega)
            rw [hq2, hoky, HLY.out] at this
            exact this
          obtain ⟨z, hze⟩ : ∃ z, z = nth ys k := ⟨_, rfl⟩
          obtain ⟨q, hqe⟩ : ∃ q, q = freeN xs k := ⟨_, rfl⟩
          have HZE := Lib.hid hze
          rw [← hze] at HC1 hz0 hz1 HMB
          rw [← hqe] at HC2 HC3 hfq HFB
          clear hok hoky hz hq hq2 hpy hze hqe hO hb
          go_wp2_with fail
          refine (HC1.out _ HBW.out).mono ?_
          rintro e u1 ⟨rfl, hb1⟩
          have t1 := HBW.out.trans (hb1.mono HBW.out.size)
          have ⟨zO1, cO1, dO1⟩ := HO9.out.below t1
          have HT1 := Lib.hid t1
          clear hb1 t1
          go_wp2_with fail
          refine (HC2.out _ HT1.out).mono ?_
          rintro e u2 ⟨rfl, hb2⟩
          have t2 := HT1.out.trans (hb2.mono HT1.out.size)
          have ⟨zM2, cM2, dM2⟩ := HM9.out.below t2
          have HT2 := Lib.hid t2
          clear hb2 t2
          go_wp2_with fail
          refine (HC3.out _ HT2.out).mono ?_
          rintro e u3 ⟨rfl, hb3⟩
          have t3 := HT2.out.trans (hb3.mono HT2.out.size)
          have ⟨zM3, cM3, dM3⟩ := HM9.out.below t3
          have ⟨zO3', cO3', dO3'⟩ := HO9.out.below t3
          obtain ⟨b9, off9, rfl, hbl9, hc9⟩ := (HY9.out.below t3).cell k hly
          rw [← HZE.out] at hc9
          have HT3 := Lib.hid t3
          have hzz : (z != z) = false := by simp
          have hqq : ((q : Int) != (q : Int)) = false := by simp
          have hkk : hasB (q : Int) (k : Int) = false := by rw [HFB.out k hlt]; simp
          clear hb3 t3
          go_wp2_with fail
          refine (pIn_any (q : Int) (k : Int) _ (by omega) (by omega) (by omega)).mono ?_
          rw [hkk]
          rintro e w' ⟨rfl, rfl⟩
          go_wp2_with fail
          go_loopw [124] (fun i wr => ∃ j : Nat, j ≤ xs.length ∧ i = .int .i64 j ∧ Below W9.heap.size W9 wr) (fun i _ => xs.length - (intOf i).toNat)
          case atStart => exact ⟨0, Nat.zero_le _, rfl, HT3.out⟩
          case round =>
            obtain ⟨j, hj, rfl, hb⟩ := hrel
            by_cases hjt : j < xs.length
            · have j1 : (j : Int) < (xs.length : Int) := by omega
              have hokb : okB (xs.length : Int) xs (k : Int) (j : Int) = true := by simp [okB, HRR.out, elemB]; omega
              have hbet : betF (xs.length : Int) xs (k : Int) (j : Int) = hasB (nth xs k) j := by rw [betF, hokb, Int.toNat_natCast, Bool.true_and]
              have HC4 : Hid (∀ W, Below W9.heap.size W9 W → Calls Try.prog 19 #[.agg #[.int .i64 (xs.length : Int), .slice a xs.length cap], .int .i64 (k : Int), .int .i64 (j : Int)] W fun e w' => e = .returned (.tuple #[.bool (hasB (nth xs k) j), .bool true]) ∧ Below W.heap.size W w') := fun W hW => by
                have := iIsBetter_any (xs.length : Int) a xs cap (k : Int) (j : Int) W hnn (HR9.out.below hW) (by omega) (by omega)
                rw [hbet, hokb] at this
                exact this
              have hxp := hp.pos k hlt
              have hxs := hp.small k hlt
              have ⟨zO4, cO4, dO4⟩ := HO9.out.below hb
              have HT4 := Lib.hid hb
              have hfb := HFB.out j hjt
              have hlb := HMB.out j hjt
              have HP1 := Lib.hid (fun W => pIn_any (nth xs k) (j : Int) W hxp (by omega) (by omega))
              have HP2 := Lib.hid (fun W => pIn_any (q : Int) (j : Int) W (by omega) (by omega) (by omega))
              have HP3 := Lib.hid (fun W => pIn_any z (j : Int) W hz0 (by omega) (by omega))
              rw [hfb] at HP2
              rw [hlb] at HP3
              generalize hasB (nth xs k) (j : Int) = bt at HC4 HP1 HP2
              generalize hasB (nth xs j) (k : Int) = lb at HP2 HP3
              clear hokb hbet hfb hlb hb
              go_wp2_with fail
              refine (HC4.out _ HT4.out).mono ?_
              rintro e u5 ⟨rfl, hb5⟩
              have t5 := HT4.out.trans (hb5.mono HT4.out.size)
              have ⟨zO5', cO5', dO5'⟩ := HO9.out.below t5
              obtain ⟨b6, off6, rfl, hbl6, hc6⟩ := (HR9.out.below t5).cell k hlt
              have HT5 := Lib.hid t5
              have hbb2 : (bt != bt) = false := by simp
              clear hb5 t5
              go_wp2_with fail
              refine (HP1.out _).mono ?_
              rintro e w' ⟨rfl, rfl⟩
              by_cases hkj : k = j
              · have hkj' : ((k : Int) != (j : Int)) = false := by simp [hkj]
                clear hkj
                go_wp2_with fail
                go_roundw
                case rel => exact ⟨j + 1, by omega, by go_num, HT5.out⟩
                case measure => simp [intOf]; omega
              · have hkj' : ((k : Int) != (j : Int)) = true := by simp; omega
                have hd : decide (k = j) = false := by simp [hkj]
                rw [hd] at HP2
                clear hkj hd
                cases bt
                · cases lb
                  all_goals
                    go_wp2_with fail
                    refine (HP2.out _).mono ?_
                    rintro e w' ⟨rfl, rfl⟩
                    go_wp2_with fail
                    refine (HP3.out _).mono ?_
                    rintro e w' ⟨rfl, rfl⟩
                    go_wp2_with fail
                    go_roundw
                    case rel => exact ⟨j + 1, by omega, by go_num, HT5.out⟩
                    case measure => simp [intOf]; omega
                · go_wp2_with fail
                  refine (HP2.out _).mono ?_
                  rintro e w' ⟨rfl, rfl⟩
                  go_wp2_with fail
                  go_roundw
                  case rel => exact ⟨j + 1, by omega, by go_num, HT5.out⟩
                  case measure => simp [intOf]; omega
            · obtain rfl : j = xs.length := by omega
              have HB := Lib.hid hb
              clear hb
              go_wp2_with fail
              go_roundw
              case rel => exact ⟨k + 1, by omega, by go_num, HB.out⟩
              case measure => simp [intOf]; omega
        · obtain rfl : k = xs.length := by omega
          go_wp2_with fail
          go_ret
          exact ⟨rfl, HB9.out.trans (hb.mono HB9.out.size)⟩

theorem rd_of_trod {H : Type} {enc : TypeId × Value → H} {W : World} {fuel : Nat} {c : Value} {y : DataW H × List MemPlace}
    (h : DataW.trod enc Try.prog W 0 (fun _ => true) true fuel 24 [c] = some y) : ∃ (a : Option Addr) (xs : List Int) (cap : Nat), c = .slice a xs.length cap ∧ Rd W a xs ∧ ∀ k, k < xs.length → (Lit.int .i64 (nth xs k)).wf = true := by
  rcases Go.ChangeShapes.open_ints Try.underlying24 Try.underlying3 (by kernel_rfl) h with ⟨hcs, _⟩ | ⟨x, len, cap, zs, hcs, _, hl, hm, hz, _, hcell, hwf⟩
  · simp only [List.cons.injEq, and_true] at hcs
    exact ⟨none, [], 0, hcs, ⟨by simp, fun k hk => by simp at hk⟩, fun k hk => by simp at hk⟩
  · simp only [List.cons.injEq, and_true] at hcs
    simp only [if_true] at hz
    have hlen : (zs.take len).length = len := by rw [List.length_take]; omega
    have hn : ∀ k, k < len → nth (zs.take len) k = zs.getD k 0 := by
      intro k hk
      simp only [nth, List.getD_eq_getElem?_getD, List.getElem?_take, hk, if_true]
    refine ⟨some x, zs.take len, cap, by rw [hlen]; exact hcs, ⟨by rw [hlen]; unfold maxLen at hm; omega, fun k hk => ?_⟩, fun k hk => ?_⟩
    · rw [hlen] at hk
      obtain ⟨b, off, sp⟩ := x
      have h0 := hcell 0 (by omega)
      have hsp : sp = none := by simpa [Addr.add] using World.cell?_spot h0
      subst hsp
      have hk' := hcell k (by omega)
      rw [Addr.add_lit] at hk'
      exact ⟨b, off, rfl, World.block_lt_of_cell? _ _ h0, by rw [hk', hn k hk]⟩
    · rw [hlen] at hk
      rw [hn k hk]
      have hk2 : k < zs.length := by omega
      exact hwf _ (by rw [List.getD_eq_getElem?_getD, List.getElem?_eq_getElem hk2]; exact List.getElem_mem hk2)

theorem own : ownKnob Try.prog.godebug = none := by kernel_rfl
theorem laidOut : laidOutB Try.prog = true := by kernel_rfl
theorem wf_bd {n : Int} (h : (Lit.int .i64 n).wf = true) : -9223372036854775808 ≤ n ∧ n ≤ 9223372036854775807 := by
  simp [Lit.wf, IntKind.min, IntKind.max, IntKind.bits, IntKind.signed] at h
  omega

theorem wf_byte {n : Int} (h : (Lit.int .u8 n).wf = true) : 0 ≤ n ∧ n ≤ 255 := by
  simp [Lit.wf, IntKind.min, IntKind.max, IntKind.bits, IntKind.signed] at h
  omega
/-- a slice of bytes that was handed over -/
theorem rdB_of_trod {H : Type} {enc : TypeId × Value → H} {W : World} {fuel : Nat} {c : Value} {y : DataW H × List MemPlace}
    (h : DataW.trod enc Try.prog W 0 (fun _ => true) true fuel 22 [c] = some y) : ∃ (a : Option Addr) (n cap : Nat), c = .slice a n cap ∧ RdB W a n ∧ n ≤ 9223372036854775807 := by
  rcases Go.ChangeShapes.open_ints Try.underlying22 Try.underlying5 (by kernel_rfl) h with ⟨hcs, _⟩ | ⟨x, len, cap, zs, hcs, _, hl, hm, hz, _, hcell, hwf⟩
  · simp only [List.cons.injEq, and_true] at hcs
    exact ⟨none, 0, 0, hcs, ⟨fun k hk => by omega⟩, by omega⟩
  · simp only [List.cons.injEq, and_true] at hcs
    simp only [if_true] at hz
    refine ⟨some x, len, cap, hcs, ⟨fun k hk => ?_⟩, by unfold maxLen at hm; omega⟩
    obtain ⟨b, off, sp⟩ := x
    have h0 := hcell 0 (by omega)
    have hsp : sp = none := by simpa [Addr.add] using World.cell?_spot h0
    subst hsp
    have hk' := hcell k (by omega)
    rw [Addr.add_lit] at hk'
    have hk2 : k < zs.length := by omega
    have hw := hwf _ (show zs.getD k 0 ∈ zs by rw [List.getD_eq_getElem?_getD, List.getElem?_eq_getElem hk2]; exact List.getElem_mem hk2)
    refine ⟨b, off, rfl, World.block_lt_of_cell? _ _ h0, zs.getD k 0, hk', ?_⟩
    exact wf_byte hw

open Go.ChangeShapes Go.WideShapes Go.ChangeAt Go.RowKit in
set_option maxRecDepth 100000 in
theorem lifted (os : Os) (started : os.Started) (H : Type) (enc : TypeId × Value → H) :
    ReturnsInHanded {} Try.checked os 3 .any (Rows.fnMirrorsSpec.pre6 enc Try.prog Try.f3 Rows.fnMirrorsRow.domain false) (Rows.fnMirrorsSpec.post enc Try.prog Try.f3 false true false false) := by
  refine returnsInHanded_of_change (C := Try.checked) own started (by kernel_rfl) Try.func3
    (ChangeSpec.witness6 (enc := enc) (C := Try.checked) false ⟨#[], #[.slice none 0 0, .slice none 0 0], []⟩ 8 (by kernel_rfl) (by kernel_rfl) (by kernel_rfl) (by kernel_rfl)) ?_
  intro W base args ds gs before hval0 hW hcnd _
  have hval : ∀ (j : Nat) t v, Try.f3.params[j]? = some t → args[j]? = some v → Value.okWide Try.prog W .any base t v := hval0
  have hW' := hW
  obtain ⟨p, q, hA0, hV, rfl, hfz, hnd⟩ := hW
  have hA : DataW.TrodAll enc Try.prog W 0 (fun _ => true) true Try.f3.params.toList args.toList ds p := hA0
  rw [Try.params3] at hA hval
  obtain ⟨v0, vs0, d0, ds0, p0, q0, hargs, rfl, rfl, h0, r0⟩ := trodAll_cons hA
  obtain ⟨v1, vs1, d1, ds1, p1, q1, rfl, rfl, rfl, h1, r1⟩ := trodAll_cons r0
  obtain ⟨rfl, rfl, rfl⟩ := trodAll_nil r1
  obtain rfl : args = #[v0, v1] := by cases args; simp_all
  obtain ⟨rfl, rfl⟩ := trodVars_none hV
  have lt0 : ∀ x ∈ p0, x.block < W.heap.size := by obtain ⟨m, hm⟩ := h0; exact DataW.trod_lt m _ _ _ hm
  have lt1 : ∀ x ∈ p1, x.block < W.heap.size := by obtain ⟨m, hm⟩ := h1; exact DataW.trod_lt m _ _ _ hm
  obtain ⟨a0, len0, cap0, rfl⟩ := okWide_slice Try.underlying22 (hval 0 22 v0 rfl rfl)
  obtain ⟨a0, n0, cap0, e0, rd0, ln0⟩ := (by obtain ⟨fu, hf⟩ := h0; simp only [Value.cells] at hf; exact rdB_of_trod hf : ∃ (a : Option Addr) (n cap : Nat), Value.slice a0 len0 cap0 = .slice a n cap ∧ RdB W a n ∧ n ≤ 9223372036854775807)
  simp only [Value.slice.injEq] at e0
  obtain ⟨rfl, rfl, rfl⟩ := e0
  obtain ⟨a1, len1, cap1, rfl⟩ := okWide_slice Try.underlying22 (hval 1 22 v1 rfl rfl)
  obtain ⟨a1, n1, cap1, e1, rd1, ln1⟩ := (by obtain ⟨fu, hf⟩ := h1; simp only [Value.cells] at hf; exact rdB_of_trod hf : ∃ (a : Option Addr) (n cap : Nat), Value.slice a1 len1 cap1 = .slice a n cap ∧ RdB W a n ∧ n ≤ 9223372036854775807)
  simp only [Value.slice.injEq] at e1
  obtain ⟨rfl, rfl, rfl⟩ := e1
  clear hA0 hval0
  refine (walk a0 len0 cap0 a1 len1 cap1 W rd0 ln0 rd1 ln1).mono fun e W' ⟨he, bel⟩ => ?_
  subst he
  exact ⟨_, rfl, _, _, _, [], _, [], hW', trodAll_mk1 (shut_bool Try.underlying4 _), (trodAll_cons_mk (Below.trod laidOut (by kernel_rfl) (of_decide_eq_true (by kernel_rfl)) h0 bel lt0) (trodAll_cons_mk (Below.trod laidOut (by kernel_rfl) (of_decide_eq_true (by kernel_rfl)) h1 bel lt1) trodAll_mk0)), rfl, bel.frame _, fun h => by cases h⟩
theorem proved : Rows.FnMirrorsSaid :=
  OpenClaim.holds_of_wide 3 Try.f3 rfl rfl rfl rfl rfl rfl rfl ⟨rfl, rfl, rfl, rfl, rfl⟩ rfl rfl rfl rfl rfl (by kernel_rfl) Try.func3 (by kernel_rfl)
    (of_decide_eq_true (by kernel_rfl)) (by unfold Func.isWrapper; first | (rw [if_pos (by decide +kernel)]; kernel_rfl) | (rw [if_neg (by decide +kernel)]; exact ⟨rfl, rfl⟩))
    (fun os started H enc _ => lifted os started H enc)

end Go.Proofs.Ytckblladklhlpaa.mirrors
