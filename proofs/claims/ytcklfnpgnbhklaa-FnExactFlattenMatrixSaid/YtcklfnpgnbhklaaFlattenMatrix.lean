/- PROVED: the law FnExactFlattenMatrix returns true for every input, and each of its arguments reads afterwards as before. No conditions. -/
import Derived.Test.YtcklfnpgnbhklaaRows
import Derived.WalkKit
import Derived.WalkSpells
import Derived.WalkLawsBesides
import Derived.Deep.QuietTactic
import Derived.BigQuiet
import Derived.ProofKit
import Derived.OpenShut
import Derived.ShutString
import Derived.ChangeOld
import Derived.Below
import Derived.Lib.SmallJoins
import Derived.Lib.Hide
import Derived.Deep.RegionHeld3
import Derived.Maps.AppendAt
import Derived.Deep.AppendLies
import Derived.Deep.RegionLaw
import Derived.Deep.Matrix
import Derived.Test.YtcklfnpgnbhklaaFlattenMatrixP1
namespace Go.Proofs.Ytcklfnpgnbhklaa.flattenMatrix
open Go Go.RowKit
set_option linter.unusedVariables false
set_option linter.unusedSimpArgs false
set_option maxHeartbeats 400000
/-- the marking of an argument: rows that were converted -/
theorem markMx_arg (g : Nat) (vl : List Value) (xss : List (List Int)) (cap : Nat) (k : Int) (B lo hi : Nat) (w : World) (h0 : 0 ≤ k) (h1 : k ≤ 1048576) (hn : xss.length + totS xss xss.length ≤ 1048576) (ho : OwnS w B g vl xss) (hc : ∀ i, i < xss.length → ∀ c, (valAt vl i).ownBlock = some c → lo ≤ c ∧ c < hi) :
    Calls Try.prog 24 #[.agg #[.slice (some ⟨g, 0, none⟩) xss.length cap], .int .i64 k] w fun e w' => e = .returned (.int .i64 (k + ((totS xss xss.length : Nat) : Int))) ∧ TouchS lo hi w w' := by
  have hmax := ho.max
  have ha : Below w.heap.size w (w.alloc (.cells #[.slice (some ⟨g, 0, none⟩) xss.length cap] 27)) := (by repeat (first | exact Below.refl _ _ | assumption | refine Below.alloc ?_ (by first | exact Nat.le_refl _ | (simp only [World.size_alloc, World.size_setCell, World.size_drew]; omega) | omega) _ | refine Below.setCell ?_ (by first | exact Nat.le_refl _ | (simp only [World.size_alloc, World.size_setCell, World.size_drew]; omega) | omega) _ | refine Below.drew ?_))
  have HA := Lib.hid ha
  have HCL := Lib.hid (markIntSS_any g vl xss cap k B lo hi _ h0 h1 hn (ho.below ha (Nat.le_refl _)) hc)
  clear hc ha ho
  go_enter Try.func24, Try.ntmps24
  go_wp2_with fail
  refine HCL.out.mono ?_
  rintro e w1 ⟨rfl, ht⟩
  have ht2 := TouchS.of_below (B := 0) HA.out ht
  clear ht
  go_wp2_with fail
  go_ret
  exact ⟨rfl, ht2⟩

set_option maxRecDepth 100000 in
/-- the marking of a result: only its rows are written -/
theorem markST_any (a : Option Addr) (n cap : Nat) (vl : List Value) (xss : List (List Int)) (k : Int) (B lo hi : Nat) (w : World) (hnl : n = xss.length) (h0 : 0 ≤ k) (h1 : k ≤ 1048576) (hn : xss.length + totS xss xss.length ≤ 1048576) (ho : RowsP w B (.slice a n cap) vl xss) (hc : ∀ i, i < xss.length → ∀ c, (valAt vl i).ownBlock = some c → lo ≤ c ∧ c < hi) :
    Calls Try.prog 51 #[.slice a n cap, .int .i64 k] w fun e w' => e = .returned (.int .i64 (k + ((totS xss xss.length : Nat) : Int))) ∧ RowsP w' B (.slice a n cap) vl (mkS xss k) ∧ TouchS lo hi w w' := by
  subst hnl
  have HO := Lib.hid ho
  have HC := Lib.hid hc
  have hmax : xss.length ≤ 1048576 := by omega
  go_enter Try.func51, Try.ntmps51
  clear ho hc
  go_wp2_with fail
  go_loopw [1, 5] (fun k' i wr => ∃ j : Nat, j ≤ xss.length ∧ i = .int .i64 j ∧ k' = .int .i64 (k + ((totS xss j : Nat) : Int)) ∧ TouchS lo hi w wr ∧ wr.ownsRow B 33 1 (.slice a xss.length cap) xss.length vl ∧ Hid (∀ i, i < xss.length → OwnI wr B (valAt vl i) (if i < j then rowL (mkS xss k) i else rowL xss i))) (fun _ i _ => xss.length - (intOf i).toNat)
  case atStart => exact ⟨0, Nat.zero_le _, rfl, by simp [totS], TouchS.refl _ _ _, HO.out.o.own, fun i hi => by rw [if_neg (by omega)]; exact HO.out.o.row i hi⟩
  case round =>
    obtain ⟨j, hj, rfl, rfl, hb, hown, HA⟩ := hrel
    by_cases hlt : j < xss.length
    · have hoj := HA.out j hlt
      rw [if_neg (by omega)] at hoj
      have hrt := row_tot (xss := xss) hlt
      have hmn := totS_mono (xss := xss) (j := j) (k := xss.length) (by omega)
      have HN : Hid (totS xss (j+1) = totS xss j + (rowL xss j).length) := rfl
      have k1 : (j : Int) < (xss.length : Int) := by omega
      have hvl := HO.out.o.vlen
      have hcj : ∃ g, a = some ⟨g, 0, none⟩ ∧ wr.cell? ⟨g, j, none⟩ = some (valAt vl j) ∧ g < wr.heap.size := by
        rcases hown.2 with ⟨e, h00⟩ | ⟨g, cap', cur, e, hbg, hg, _⟩
        · omega
        · simp only [Value.slice.injEq] at e
          obtain ⟨rfl, _, rfl⟩ := e
          exact ⟨g, rfl, by rw [World.ownsRow.cellAt hown j (by omega), valAt_get (by omega)], (Array.getElem?_eq_some_iff.1 hg).1⟩
      obtain ⟨g, rfl, hc, hgl⟩ := hcj
      have HAP := Lib.hid (HO.out.o.apart j hlt)
      have HCJ := Lib.hid (HC.out j hlt)
      have HPR := Lib.hid (fun i (hi : i < xss.length) (hne : i ≠ j) c (hc : (valAt vl j).ownBlock = some c) (hc2 : (valAt vl i).ownBlock = some c) => show False from by
        rcases Nat.lt_or_gt_of_ne hne with h | h
        · exact HO.out.pair i j h hlt c hc2 hc
        · exact HO.out.pair j i h hi c hc hc2)
      obtain ⟨vj, hvj⟩ : ∃ vj, vj = valAt vl j := ⟨_, rfl⟩
      have HVJ := Lib.hid hvj
      rw [← hvj] at hc hoj HAP HPR HCJ
      clear hvj hvl
      obtain ⟨aj, capj, rfl⟩ := hoj.form
      have hro : (rowL xss j).length ≤ 1048576 := by omega
      go_wp2_with fail
      refine (markIntS_any _ _ _ _ _ _ (by omega) (by omega) hro hoj).mono ?_
      rintro e w2 ⟨rfl, ho2, hg2⟩
      have b2 := hb.step hg2 HCJ.out
      have own2 : w2.ownsRow B 33 1 (.slice (some ⟨g, 0, none⟩) xss.length cap) xss.length vl := World.ownsRow.kept hown hg2 (own_ne (fun c e e2 => HAP.out c e2 e))
      have HA2 : Hid (∀ i, i < xss.length → OwnI w2 B (valAt vl i) (if i < j + 1 then rowL (mkS xss k) i else rowL xss i)) := by
        intro i hi
        by_cases e : i = j
        · subst e
          rw [if_pos (by omega), mkS_row hi, ← HVJ.out]
          exact ho2
        · have h3 := HA.out i hi
          have h4 : OwnI w2 B (valAt vl i) (if i < j then rowL (mkS xss k) i else rowL xss i) := h3.kept hg2 (own_ne (fun c e1 e2 => HPR.out i hi e c e2 e1))
          by_cases e5 : i < j
          · rw [if_pos e5] at h4
            rw [if_pos (by omega)]; exact h4
          · rw [if_neg e5] at h4
            rw [if_neg (by omega)]; exact h4
      clear ho2 hg2 hown
      go_wp2_with fail
      go_roundw
      case rel => exact ⟨j + 1, by omega, by go_num, val_int (by rw [HN.out]; omega), b2, own2, HA2⟩
      case measure => simp [intOf]; omega
    · obtain rfl : j = xss.length := by omega
      go_wp2_with fail
      go_ret
      refine ⟨rfl, ⟨⟨by rw [mkS_len]; exact hown, fun i hi => ?_, fun i hi => ?_⟩, fun i j h1 h2 => ?_⟩, hb⟩
      · rw [mkS_len] at hi
        have := HA.out i hi
        rw [if_pos hi] at this; exact this
      · rw [mkS_len] at hi
        exact HO.out.o.apart i hi
      · rw [mkS_len] at h2
        exact HO.out.pair i j h1 h2
theorem markMx_res (a : Option Addr) (cap : Nat) (vl : List Value) (xss : List (List Int)) (k : Int) (B lo hi : Nat) (w : World) (h0 : 0 ≤ k) (h1 : k ≤ 1048576) (hn : xss.length + totS xss xss.length ≤ 1048576) (ho : RowsP w B (.slice a xss.length cap) vl xss) (hc : ∀ i, i < xss.length → ∀ c, (valAt vl i).ownBlock = some c → lo ≤ c ∧ c < hi) :
    Calls Try.prog 24 #[.agg #[.slice a xss.length cap], .int .i64 k] w fun e w' => e = .returned (.int .i64 (k + ((totS xss xss.length : Nat) : Int))) ∧ RowsP w' B (.slice a xss.length cap) vl (mkS xss k) ∧ TouchS lo hi w w' := by
  have hmax : xss.length ≤ 1048576 := by omega
  have ha : Below w.heap.size w (w.alloc (.cells #[.slice a xss.length cap] 27)) := (by repeat (first | exact Below.refl _ _ | assumption | refine Below.alloc ?_ (by first | exact Nat.le_refl _ | (simp only [World.size_alloc, World.size_setCell, World.size_drew]; omega) | omega) _ | refine Below.setCell ?_ (by first | exact Nat.le_refl _ | (simp only [World.size_alloc, World.size_setCell, World.size_drew]; omega) | omega) _ | refine Below.drew ?_))
  have HA := Lib.hid ha
  have HCL := Lib.hid (markST_any a xss.length cap vl xss k B lo hi _ rfl h0 h1 hn (ho.below ha (Nat.le_refl _)) hc)
  clear hc ha ho
  go_enter Try.func24, Try.ntmps24
  go_wp2_with fail
  refine HCL.out.mono ?_
  rintro e w1 ⟨rfl, ho1, ht⟩
  have ht2 := TouchS.of_below (B := 0) HA.out ht
  clear ht
  go_wp2_with fail
  go_ret
  exact ⟨rfl, ho1, ht2⟩

theorem heldIntS_any (a : Option Addr) (n cap : Nat) (k : Int) (w : World) (h0 : 0 ≤ k) (h1 : k ≤ 1099511627776) (hn : n ≤ 1048576) (hx : Rd w a (marks k n)) :
    Calls Try.prog 26 #[.slice a n cap, .int .i64 k] w fun e w' => e = .returned (.int .i64 (k + n)) ∧ Below w.heap.size w w' := by
  go_enter Try.func26, Try.ntmps26
  go_wp2_with fail
  go_loop [1, 5] (fun k' i => ∃ j : Nat, j ≤ n ∧ i = .int .i64 j ∧ k' = .int .i64 (k + j)) (fun _ i => n - (intOf i).toNat)
  case atStart => exact ⟨0, Nat.zero_le _, rfl, by simp⟩
  case round =>
    obtain ⟨j, hj, rfl, rfl⟩ := hrel
    by_cases hlt : j < n
    · obtain ⟨b, off, rfl, hbl, hc⟩ := hx.cell j (by rw [marks_len]; exact hlt)
      rw [marks_nth hlt] at hc
      go_wp2_with fail
      go_round
      case rel => exact ⟨j + 1, by omega, by go_num, by go_num⟩
      case measure => simp [intOf]; omega
    · obtain rfl : j = n := by omega
      go_wp2_with fail
      go_ret
      exact ⟨rfl, (by repeat (first | exact Below.refl _ _ | assumption | refine Below.alloc ?_ (by first | exact Nat.le_refl _ | (simp only [World.size_alloc, World.size_setCell, World.size_drew]; omega) | omega) _ | refine Below.setCell ?_ (by first | exact Nat.le_refl _ | (simp only [World.size_alloc, World.size_setCell, World.size_drew]; omega) | omega) _ | refine Below.drew ?_))⟩

set_option maxRecDepth 100000 in
theorem heldSS_any (a : Option Addr) (n cap : Nat) (xss : List (List Int)) (k : Int) (w : World) (hnl : n = xss.length) (h0 : 0 ≤ k) (h1 : k ≤ 1048576) (hn : xss.length + totS xss xss.length ≤ 1048576) (hx : RdS w a (mkS xss k)) :
    Calls Try.prog 54 #[.slice a n cap, .int .i64 k] w fun e w' => e = .returned (.int .i64 (k + ((totS xss xss.length : Nat) : Int))) ∧ Below w.heap.size w w' := by
  subst hnl
  have hmax : xss.length ≤ 1048576 := by omega
  go_enter Try.func54, Try.ntmps54
  go_wp2_with fail
  go_loopw [1, 5] (fun k' i wr => ∃ j : Nat, j ≤ xss.length ∧ i = .int .i64 j ∧ k' = .int .i64 (k + ((totS xss j : Nat) : Int)) ∧ Below w.heap.size w wr) (fun _ i _ => xss.length - (intOf i).toNat)
  case atStart => exact ⟨0, Nat.zero_le _, rfl, by simp [totS], Below.refl _ _⟩
  case round =>
    obtain ⟨j, hj, rfl, rfl, hb⟩ := hrel
    by_cases hlt : j < xss.length
    · have hrt := row_tot (xss := xss) hlt
      have hmn := totS_mono (xss := xss) (j := j) (k := xss.length) (by omega)
      have HN : Hid (totS xss (j+1) = totS xss j + (rowL xss j).length) := rfl
      have k1 : (j : Int) < (xss.length : Int) := by omega
      obtain ⟨b1, off1, a1, cap1, rfl, hbl1, hc1, hr1⟩ := (hx.below hb).row j (by rw [mkS_len]; exact hlt)
      rw [mkS_row hlt] at hc1 hr1
      have hml : (marks (k + ((totS xss j : Nat) : Int)) (rowL xss j).length).length = (rowL xss j).length := by simp [marks]
      rw [hml] at hc1
      clear hml
      have hro : (rowL xss j).length ≤ 1048576 := by omega
      have hcall := heldIntS_any a1 (rowL xss j).length cap1 (k + ((totS xss j : Nat) : Int)) wr (by omega) (by omega) hro hr1
      have HCL := Lib.hid hcall
      have hge : ¬ (k + ((totS xss j : Nat) : Int) + (((rowL xss j).length : Nat) : Int) < 0) := by omega
      have hbs := hb.size
      clear hcall hr1
      go_wp2_with fail
      refine HCL.out.mono ?_
      rintro e w2 ⟨rfl, hb2⟩
      go_wp2_with fail
      go_roundw
      case rel => exact ⟨j + 1, by omega, by go_num, val_int (by rw [HN.out]; omega), hb.trans (hb2.mono hbs)⟩
      case measure => simp [intOf]; omega
    · obtain rfl : j = xss.length := by omega
      go_wp2_with fail
      go_ret
      exact ⟨rfl, hb⟩

theorem heldMx_any (a : Option Addr) (cap : Nat) (xss : List (List Int)) (k : Int) (w : World) (h0 : 0 ≤ k) (h1 : k ≤ 1048576) (hn : xss.length + totS xss xss.length ≤ 1048576) (hx : RdS w a (mkS xss k)) :
    Calls Try.prog 29 #[.agg #[.slice a xss.length cap], .int .i64 k] w fun e w' => e = .returned (.int .i64 (k + ((totS xss xss.length : Nat) : Int))) ∧ Below w.heap.size w w' := by
  have hmax : xss.length ≤ 1048576 := by omega
  have ha : Below w.heap.size w (w.alloc (.cells #[.slice a xss.length cap] 27)) := (by repeat (first | exact Below.refl _ _ | assumption | refine Below.alloc ?_ (by first | exact Nat.le_refl _ | (simp only [World.size_alloc, World.size_setCell, World.size_drew]; omega) | omega) _ | refine Below.setCell ?_ (by first | exact Nat.le_refl _ | (simp only [World.size_alloc, World.size_setCell, World.size_drew]; omega) | omega) _ | refine Below.drew ?_))
  have HA := Lib.hid ha
  have HCL := Lib.hid (heldSS_any a xss.length cap xss k _ rfl h0 h1 hn (hx.below ha))
  clear ha hx
  go_enter Try.func29, Try.ntmps29
  go_wp2_with fail
  refine HCL.out.mono ?_
  rintro e w1 ⟨rfl, hb⟩
  have hge : ¬ (k + ((totS xss xss.length : Nat) : Int) < 0) := by omega
  have hb2 : Below w.heap.size w w1 := HA.out.trans (hb.mono HA.out.size)
  clear hb
  go_wp2_with fail
  go_ret
  exact ⟨rfl, hb2⟩

theorem walk (a0 : Option Addr) (xss0 : List (List Int)) (cap0 : Nat) (w : World) (hx0 : RdS w a0 xss0) :
    Calls Try.prog 8 #[.agg #[.slice a0 xss0.length cap0]] w fun e w' => e = .returned (.bool true) ∧ Below w.heap.size w w' := by
  have hR0 : (flL xss0).length + totS (flL xss0) (flL xss0).length ≤ 1048576 := flL_len xss0
  by_cases hs0 : 1048576 < ((xss0.length + totS xss0 xss0.length : Nat) : Int)
  · go_enter Try.func8, Try.ntmps8
    go_wp2_with fail
    refine (szMx_no (by omega) (hx0.below ((Below.refl _ _).alloc (by first | exact Nat.le_refl _ | simp) _))).mono ?_
    rintro e w1 ⟨rfl, hb1⟩
    have bw1 : Below w.heap.size w w1 := Below.trans (by repeat (first | exact Below.refl _ _ | assumption | refine Below.alloc ?_ (by first | exact Nat.le_refl _ | (simp only [World.size_alloc, World.size_setCell, World.size_drew]; omega) | omega) _ | refine Below.setCell ?_ (by first | exact Nat.le_refl _ | (simp only [World.size_alloc, World.size_setCell, World.size_drew]; omega) | omega) _ | refine Below.drew ?_)) (hb1.mono (by first | (simp only [World.size_alloc, World.size_setCell, World.size_drew]; omega) | omega))
    have A0_1 : Box1 w1 w.heap.size (.slice a0 xss0.length cap0) := ⟨by have := hb1.size; simp at this; omega, (hb1.cell (p := ⟨w.heap.size, 0, none⟩) (by simp <;> omega)).trans (by simp)⟩
    have ⟨zA0_1, cA0_1⟩ := A0_1
    go_wp2_with fail
    go_ret
    exact ⟨rfl, bw1⟩
  go_enter Try.func8, Try.ntmps8
  go_wp2_with fail
  refine (szMx_ok (by omega) (hx0.below ((Below.refl _ _).alloc (by first | exact Nat.le_refl _ | simp) _))).mono ?_
  rintro e w1 ⟨rfl, hb⟩
  have bw1 : Below w.heap.size w w1 := Below.trans (by repeat (first | exact Below.refl _ _ | assumption | refine Below.alloc ?_ (by first | exact Nat.le_refl _ | (simp only [World.size_alloc, World.size_setCell, World.size_drew]; omega) | omega) _ | refine Below.setCell ?_ (by first | exact Nat.le_refl _ | (simp only [World.size_alloc, World.size_setCell, World.size_drew]; omega) | omega) _ | refine Below.drew ?_)) (hb.mono (by first | (simp only [World.size_alloc, World.size_setCell, World.size_drew]; omega) | omega))
  have z1 : w.heap.size ≤ w1.heap.size := bw1.size
  have A0_1 : Box1 w1 w.heap.size (.slice a0 xss0.length cap0) := ⟨by have := hb.size; simp at this; omega, (hb.cell (p := ⟨w.heap.size, 0, none⟩) (by simp <;> omega)).trans (by simp)⟩
  have ⟨zA0_1, cA0_1⟩ := A0_1
  clear hb
  go_wp2_with fail
  refine (toMx_any _ _ _ _ (hx0.below bw1) (by omega)).mono ?_
  rintro e w2 ⟨pT0, qT0, lT0, rfl, ho, hb⟩
  have ht : Below w1.heap.size w1 w2 := hb
  have z2 : w1.heap.size ≤ w2.heap.size := ht.size
  have bw2 : Below w.heap.size w w2 := bw1.trans (ht.mono bw1.size)
  have A0_2 := A0_1.below ht
  have ⟨zA0_2, cA0_2⟩ := A0_2
  clear A0_1 cA0_1
  have T0_2 := ho
  have UT0 := T0_2.cut (Nat.le_refl _)
  clear ho
  clear ht hb
  go_wp2_with fail
  refine (sFlatten_any _ _ _ _ (T0_2.rdC) (by omega)).mono ?_
  rintro e w3 ⟨pR0, qR0, lR0, rfl, ho0, hb⟩
  have ht : Below w2.heap.size w2 w3 := hb
  have z3 : w2.heap.size ≤ w3.heap.size := ht.size
  have bw3 : Below w.heap.size w w3 := bw2.trans (ht.mono bw2.size)
  have A0_3 := A0_2.below ht
  have ⟨zA0_3, cA0_3⟩ := A0_3
  have T0_3 := T0_2.below ht (Nat.le_refl _)
  clear A0_2 cA0_2 T0_2
  have R0_3 := ho0
  have UR0 := R0_3.cut (Nat.le_refl _)
  clear ho0
  clear ht hb
  go_wp2_with fail
  clear T0_3 UT0
  refine (toMx_any _ _ _ _ (hx0.below (bw3.alloc bw3.size _)) (by omega)).mono ?_
  rintro e w4 ⟨pX0, qX0, lX0, rfl, ho, hb⟩
  have ht : Below w3.heap.size w3 w4 := Below.trans (by repeat (first | exact Below.refl _ _ | assumption | refine Below.alloc ?_ (by first | exact Nat.le_refl _ | (simp only [World.size_alloc, World.size_setCell, World.size_drew]; omega) | omega) _ | refine Below.setCell ?_ (by first | exact Nat.le_refl _ | (simp only [World.size_alloc, World.size_setCell, World.size_drew]; omega) | omega) _ | refine Below.drew ?_)) (hb.mono (by first | (simp only [World.size_alloc, World.size_setCell, World.size_drew]; omega) | omega))
  have z4 : w3.heap.size ≤ w4.heap.size := ht.size
  have bw4 : Below w.heap.size w w4 := bw3.trans (ht.mono bw3.size)
  have A0_4 := A0_3.below ht
  have BR0_4 : Box1 w4 w3.heap.size (.slice pR0 (flL xss0).length qR0) := (Box1.new w3 _ 27).below hb
  have ⟨zA0_4, cA0_4⟩ := A0_4
  have ⟨zBR0_4, cBR0_4⟩ := BR0_4
  have R0_4 := R0_3.below ht (Nat.le_refl _)
  clear A0_3 cA0_3 R0_3
  have X0_4 := ho
  have UX0 := X0_4.cut (Nat.le_refl _); simp only [World.size_alloc] at UX0
  clear ho
  clear ht hb
  go_wp2_with fail
  refine (iFlatten_any _ _ _ _ (X0_4.rdC.below (by repeat (first | exact Below.refl _ _ | assumption | refine Below.alloc ?_ (by first | exact Nat.le_refl _ | (simp only [World.size_alloc, World.size_setCell, World.size_drew]; omega) | omega) _ | refine Below.setCell ?_ (by first | exact Nat.le_refl _ | (simp only [World.size_alloc, World.size_setCell, World.size_drew]; omega) | omega) _ | refine Below.drew ?_))) (by omega)).mono ?_
  rintro e w5 ⟨pG0, qG0, lG0, rfl, ho0, hb⟩
  have ht : Below w4.heap.size w4 w5 := Below.trans (by repeat (first | exact Below.refl _ _ | assumption | refine Below.alloc ?_ (by first | exact Nat.le_refl _ | (simp only [World.size_alloc, World.size_setCell, World.size_drew]; omega) | omega) _ | refine Below.setCell ?_ (by first | exact Nat.le_refl _ | (simp only [World.size_alloc, World.size_setCell, World.size_drew]; omega) | omega) _ | refine Below.drew ?_)) (hb.mono (by first | (simp only [World.size_alloc, World.size_setCell, World.size_drew]; omega) | omega))
  have z5 : w4.heap.size ≤ w5.heap.size := ht.size
  have bw5 : Below w.heap.size w w5 := bw4.trans (ht.mono bw4.size)
  have A0_5 := A0_4.below ht
  have BR0_5 := BR0_4.below ht
  have BX0_5 : Box1 w5 w4.heap.size (.slice (some ⟨pX0, 0, none⟩) xss0.length qX0) := (Box1.new w4 _ 27).below hb
  have ⟨zA0_5, cA0_5⟩ := A0_5
  have ⟨zBR0_5, cBR0_5⟩ := BR0_5
  have ⟨zBX0_5, cBX0_5⟩ := BX0_5
  have R0_5 := R0_4.below ht (Nat.le_refl _)
  have X0_5 := X0_4.below ht (Nat.le_refl _)
  clear A0_4 cA0_4 BR0_4 cBR0_4 R0_4 X0_4
  have G0_5 := ho0
  have UG0 := G0_5.cut (Nat.le_refl _); simp only [World.size_alloc] at UG0
  clear ho0
  clear ht hb
  go_wp2_with fail
  refine (eqMx_any _ _ (flL xss0) _ _ _ (G0_5.o.rd.below (by repeat (first | exact Below.refl _ _ | assumption | refine Below.alloc ?_ (by first | exact Nat.le_refl _ | (simp only [World.size_alloc, World.size_setCell, World.size_drew]; omega) | omega) _ | refine Below.setCell ?_ (by first | exact Nat.le_refl _ | (simp only [World.size_alloc, World.size_setCell, World.size_drew]; omega) | omega) _ | refine Below.drew ?_))) (R0_5.o.rd.below (by repeat (first | exact Below.refl _ _ | assumption | refine Below.alloc ?_ (by first | exact Nat.le_refl _ | (simp only [World.size_alloc, World.size_setCell, World.size_drew]; omega) | omega) _ | refine Below.setCell ?_ (by first | exact Nat.le_refl _ | (simp only [World.size_alloc, World.size_setCell, World.size_drew]; omega) | omega) _ | refine Below.drew ?_)))).mono ?_
  rintro e w6 ⟨rfl, hb⟩
  have ht : Below w5.heap.size w5 w6 := Below.trans (by repeat (first | exact Below.refl _ _ | assumption | refine Below.alloc ?_ (by first | exact Nat.le_refl _ | (simp only [World.size_alloc, World.size_setCell, World.size_drew]; omega) | omega) _ | refine Below.setCell ?_ (by first | exact Nat.le_refl _ | (simp only [World.size_alloc, World.size_setCell, World.size_drew]; omega) | omega) _ | refine Below.drew ?_)) (hb.mono (by first | (simp only [World.size_alloc, World.size_setCell, World.size_drew]; omega) | omega))
  have z6 : w5.heap.size ≤ w6.heap.size := ht.size
  have bw6 : Below w.heap.size w w6 := bw5.trans (ht.mono bw5.size)
  have A0_6 := A0_5.below ht
  have BR0_6 := BR0_5.below ht
  have BX0_6 := BX0_5.below ht
  have BG0_6 : Box1 w6 w5.heap.size (.slice pG0 (flL xss0).length qG0) := (Box1.new w5 _ 27).below hb
  have ⟨zA0_6, cA0_6⟩ := A0_6
  have ⟨zBR0_6, cBR0_6⟩ := BR0_6
  have ⟨zBX0_6, cBX0_6⟩ := BX0_6
  have ⟨zBG0_6, cBG0_6⟩ := BG0_6
  have R0_6 := R0_5.below ht (Nat.le_refl _)
  have X0_6 := X0_5.below ht (Nat.le_refl _)
  have G0_6 := G0_5.below ht (Nat.le_refl _)
  clear A0_5 cA0_5 BR0_5 cBR0_5 BX0_5 cBX0_5 R0_5 X0_5 G0_5
  clear ht hb
  go_wp2_with fail
  go_region_held3 (fun w' => w'.cell? ⟨w.heap.size, 0, none⟩ = some (.slice a0 xss0.length cap0) ∧ w'.cell? ⟨w4.heap.size, 0, none⟩ = some (.slice (some ⟨pX0, 0, none⟩) xss0.length qX0))
    (first | exact ⟨P8.2, Q8.2⟩ | exact ⟨P7.2, Q7.2⟩ | go_keep)
    (first | (go_at_call 14; refine (toMx_any _ _ _ _ (hx0.below (bw6.trans (Joins.below_draws _ _ _))) (by omega)).mono ?_; rintro e w7 ⟨a7', cap7', l7', rfl, ho7, hb7⟩; have ht7 : Below w6.heap.size w6 w7 := (Joins.below_draws _ _ _).trans hb7; have P7 := A0_6.below ht7; have Q7 := BX0_6.below ht7) | (go_at_call 16; refine (eqMx_any _ _ xss0 _ _ _ (X0_6.rd.below ht7) ho7.rd).mono ?_; rintro e w8 ⟨rfl, hb8⟩; have P8 := P7.below hb8; have Q8 := Q7.below hb8))
  have ht : Below w6.heap.size w6 w8 := ht7.trans (hb8.mono ht7.size)
  have z8 : w6.heap.size ≤ w8.heap.size := ht.size
  have bw8 : Below w.heap.size w w8 := bw6.trans (ht.mono bw6.size)
  clear P7 Q7 P8 Q8 ho7
  have A0_8 := A0_6.below ht
  have BR0_8 := BR0_6.below ht
  have BX0_8 := BX0_6.below ht
  have BG0_8 := BG0_6.below ht
  have ⟨zA0_8, cA0_8⟩ := A0_8
  have ⟨zBR0_8, cBR0_8⟩ := BR0_8
  have ⟨zBX0_8, cBX0_8⟩ := BX0_8
  have ⟨zBG0_8, cBG0_8⟩ := BG0_8
  have R0_8 := R0_6.below ht (Nat.le_refl _)
  have X0_8 := X0_6.below ht (Nat.le_refl _)
  have G0_8 := G0_6.below ht (Nat.le_refl _)
  clear A0_6 cA0_6 BR0_6 cBR0_6 BX0_6 cBX0_6 BG0_6 cBG0_6 R0_6 X0_6 G0_6
  clear ht hb8 ht7 hb7
  go_wp2_with fail
  refine (markMx_arg _ _ _ _ _ _ (w3.heap.size + 1) w4.heap.size _ (by omega) (by omega) (by omega) X0_8 (fun i hi c e => by have h1 := UX0.2 i hi c e; have h2 := UX0.1; omega)).mono ?_
  rintro e w9 ⟨rfl, hg⟩
  have z9 : w8.heap.size ≤ w9.heap.size := hg.size
  have bw9 : Below w.heap.size w w9 := bw8.trans (hg.below (by omega) (by omega))
  have A0_9 := A0_8.touch hg (by omega)
  have ⟨zA0_9, cA0_9⟩ := A0_9
  have BR0_9 := BR0_8.touch hg (by omega)
  have ⟨zBR0_9, cBR0_9⟩ := BR0_9
  have BX0_9 := BX0_8.touch hg (by omega)
  have ⟨zBX0_9, cBX0_9⟩ := BX0_9
  have BG0_9 := BG0_8.touch hg (by omega)
  have ⟨zBG0_9, cBG0_9⟩ := BG0_9
  have R0_9 := R0_8.touch hg (fun c e => by have := UR0.1 c e; omega) (fun k hk c e => by have := UR0.2 k hk c e; omega)
  have G0_9 := G0_8.touch hg (fun c e => by have := UG0.1 c e; omega) (fun k hk c e => by have := UG0.2 k hk c e; omega)
  clear A0_8 cA0_8 BR0_8 cBR0_8 BX0_8 cBX0_8 BG0_8 cBG0_8 R0_8 X0_8 G0_8 hg UX0
  go_wp2_with fail
  refine (eqMx_any _ _ (flL xss0) _ _ _ (G0_9.o.rd) (R0_9.o.rd)).mono ?_
  rintro e w10 ⟨rfl, hb⟩
  have ht : Below w9.heap.size w9 w10 := hb
  have z10 : w9.heap.size ≤ w10.heap.size := ht.size
  have bw10 : Below w.heap.size w w10 := bw9.trans (ht.mono bw9.size)
  have A0_10 := A0_9.below ht
  have BR0_10 := BR0_9.below ht
  have BX0_10 := BX0_9.below ht
  have BG0_10 := BG0_9.below ht
  have ⟨zA0_10, cA0_10⟩ := A0_10
  have ⟨zBR0_10, cBR0_10⟩ := BR0_10
  have ⟨zBX0_10, cBX0_10⟩ := BX0_10
  have ⟨zBG0_10, cBG0_10⟩ := BG0_10
  have R0_10 := R0_9.below ht (Nat.le_refl _)
  have G0_10 := G0_9.below ht (Nat.le_refl _)
  clear A0_9 cA0_9 BR0_9 cBR0_9 BX0_9 cBX0_9 BG0_9 cBG0_9 R0_9 G0_9
  clear ht hb
  go_wp2_with fail
  have hcm : ∀ i, i < (flL xss0).length → ∀ c, (valAt lG0 i).ownBlock = some c → (w4.heap.size + 1) ≤ c ∧ c < w5.heap.size := fun i hi c e => by have := UG0.2 i hi c e; omega
  refine (markMx_res _ _ _ (flL xss0) _ _ (w4.heap.size + 1) w5.heap.size _ (by omega) (by omega) hR0 G0_10 hcm).mono ?_
  rintro e w11 ⟨rfl, ho, hg⟩
  have z11 : w10.heap.size ≤ w11.heap.size := hg.size
  have bw11 : Below w.heap.size w w11 := bw10.trans (hg.below (by omega) (by omega))
  have A0_11 := A0_10.touch hg (by omega)
  have ⟨zA0_11, cA0_11⟩ := A0_11
  have BR0_11 := BR0_10.touch hg (by omega)
  have ⟨zBR0_11, cBR0_11⟩ := BR0_11
  have BX0_11 := BX0_10.touch hg (by omega)
  have ⟨zBX0_11, cBX0_11⟩ := BX0_11
  have BG0_11 := BG0_10.touch hg (by omega)
  have ⟨zBG0_11, cBG0_11⟩ := BG0_11
  have R0_11 := R0_10.touch hg (fun c e => by have := UR0.1 c e; omega) (fun k hk c e => by have := UR0.2 k hk c e; omega)
  clear A0_10 cA0_10 BR0_10 cBR0_10 BX0_10 cBX0_10 BG0_10 cBG0_10 R0_10 G0_10 hg hcm
  have G0_11 := ho
  clear ho
  go_wp2_with fail
  refine (heldMx_any _ _ (flL xss0) _ _ (by omega) (by omega) hR0 G0_11.o.rd).mono ?_
  rintro e w12 ⟨rfl, hb⟩
  have ht : Below w11.heap.size w11 w12 := hb
  have z12 : w11.heap.size ≤ w12.heap.size := ht.size
  have bw12 : Below w.heap.size w w12 := bw11.trans (ht.mono bw11.size)
  have A0_12 := A0_11.below ht
  have BR0_12 := BR0_11.below ht
  have BX0_12 := BX0_11.below ht
  have BG0_12 := BG0_11.below ht
  have ⟨zA0_12, cA0_12⟩ := A0_12
  have ⟨zBR0_12, cBR0_12⟩ := BR0_12
  have ⟨zBX0_12, cBX0_12⟩ := BX0_12
  have ⟨zBG0_12, cBG0_12⟩ := BG0_12
  have R0_12 := R0_11.below ht (Nat.le_refl _)
  have G0_12 := G0_11.below ht (Nat.le_refl _)
  clear A0_11 cA0_11 BR0_11 cBR0_11 BX0_11 cBX0_11 BG0_11 cBG0_11 R0_11 G0_11
  clear ht hb
  go_wp2_with fail
  refine (toMx_any _ _ _ _ (hx0.below bw12) (by omega)).mono ?_
  rintro e w13 ⟨pV0, qV0, lV0, rfl, ho, hb⟩
  have ht : Below w12.heap.size w12 w13 := hb
  have z13 : w12.heap.size ≤ w13.heap.size := ht.size
  have bw13 : Below w.heap.size w w13 := bw12.trans (ht.mono bw12.size)
  have A0_13 := A0_12.below ht
  have BR0_13 := BR0_12.below ht
  have BX0_13 := BX0_12.below ht
  have BG0_13 := BG0_12.below ht
  have ⟨zA0_13, cA0_13⟩ := A0_13
  have ⟨zBR0_13, cBR0_13⟩ := BR0_13
  have ⟨zBX0_13, cBX0_13⟩ := BX0_13
  have ⟨zBG0_13, cBG0_13⟩ := BG0_13
  have R0_13 := R0_12.below ht (Nat.le_refl _)
  have G0_13 := G0_12.below ht (Nat.le_refl _)
  clear A0_12 cA0_12 BR0_12 cBR0_12 BX0_12 cBX0_12 BG0_12 cBG0_12 R0_12 G0_12
  have V0_13 := ho
  have UV0 := V0_13.cut (Nat.le_refl _)
  clear ho
  clear ht hb
  go_wp2_with fail
  refine (iFlatten_any _ _ _ _ (V0_13.rdC) (by omega)).mono ?_
  rintro e w14 ⟨pH0, qH0, lH0, rfl, ho0, hb⟩
  have ht : Below w13.heap.size w13 w14 := hb
  have z14 : w13.heap.size ≤ w14.heap.size := ht.size
  have bw14 : Below w.heap.size w w14 := bw13.trans (ht.mono bw13.size)
  have A0_14 := A0_13.below ht
  have BR0_14 := BR0_13.below ht
  have BX0_14 := BX0_13.below ht
  have BG0_14 := BG0_13.below ht
  have ⟨zA0_14, cA0_14⟩ := A0_14
  have ⟨zBR0_14, cBR0_14⟩ := BR0_14
  have ⟨zBX0_14, cBX0_14⟩ := BX0_14
  have ⟨zBG0_14, cBG0_14⟩ := BG0_14
  have R0_14 := R0_13.below ht (Nat.le_refl _)
  have G0_14 := G0_13.below ht (Nat.le_refl _)
  have V0_14 := V0_13.below ht (Nat.le_refl _)
  clear A0_13 cA0_13 BR0_13 cBR0_13 BX0_13 cBX0_13 BG0_13 cBG0_13 R0_13 G0_13 V0_13
  have H0_14 := ho0
  have UH0 := H0_14.cut (Nat.le_refl _)
  clear ho0
  clear ht hb
  go_wp2_with fail
  clear V0_14 UV0
  refine (eqMx_any _ _ (flL xss0) _ _ _ (H0_14.o.rd.below (by repeat (first | exact Below.refl _ _ | assumption | refine Below.alloc ?_ (by first | exact Nat.le_refl _ | (simp only [World.size_alloc, World.size_setCell, World.size_drew]; omega) | omega) _ | refine Below.setCell ?_ (by first | exact Nat.le_refl _ | (simp only [World.size_alloc, World.size_setCell, World.size_drew]; omega) | omega) _ | refine Below.drew ?_))) (R0_14.o.rd.below (by repeat (first | exact Below.refl _ _ | assumption | refine Below.alloc ?_ (by first | exact Nat.le_refl _ | (simp only [World.size_alloc, World.size_setCell, World.size_drew]; omega) | omega) _ | refine Below.setCell ?_ (by first | exact Nat.le_refl _ | (simp only [World.size_alloc, World.size_setCell, World.size_drew]; omega) | omega) _ | refine Below.drew ?_)))).mono ?_
  rintro e w15 ⟨rfl, hb⟩
  have ht : Below w14.heap.size w14 w15 := Below.trans (by repeat (first | exact Below.refl _ _ | assumption | refine Below.alloc ?_ (by first | exact Nat.le_refl _ | (simp only [World.size_alloc, World.size_setCell, World.size_drew]; omega) | omega) _ | refine Below.setCell ?_ (by first | exact Nat.le_refl _ | (simp only [World.size_alloc, World.size_setCell, World.size_drew]; omega) | omega) _ | refine Below.drew ?_)) (hb.mono (by first | (simp only [World.size_alloc, World.size_setCell, World.size_drew]; omega) | omega))
  have z15 : w14.heap.size ≤ w15.heap.size := ht.size
  have bw15 : Below w.heap.size w w15 := bw14.trans (ht.mono bw14.size)
  have A0_15 := A0_14.below ht
  have BR0_15 := BR0_14.below ht
  have BX0_15 := BX0_14.below ht
  have BG0_15 := BG0_14.below ht
  have BH0_15 : Box1 w15 w14.heap.size (.slice pH0 (flL xss0).length qH0) := (Box1.new w14 _ 27).below hb
  have ⟨zA0_15, cA0_15⟩ := A0_15
  have ⟨zBR0_15, cBR0_15⟩ := BR0_15
  have ⟨zBX0_15, cBX0_15⟩ := BX0_15
  have ⟨zBG0_15, cBG0_15⟩ := BG0_15
  have ⟨zBH0_15, cBH0_15⟩ := BH0_15
  have R0_15 := R0_14.below ht (Nat.le_refl _)
  have G0_15 := G0_14.below ht (Nat.le_refl _)
  have H0_15 := H0_14.below ht (Nat.le_refl _)
  clear A0_14 cA0_14 BR0_14 cBR0_14 BX0_14 cBX0_14 BG0_14 cBG0_14 R0_14 G0_14 H0_14
  clear ht hb
  go_wp2_with fail
  refine (heldMx_any _ _ (flL xss0) _ _ (by omega) (by omega) hR0 G0_15.o.rd).mono ?_
  rintro e w16 ⟨rfl, hb⟩
  have ht : Below w15.heap.size w15 w16 := hb
  have z16 : w15.heap.size ≤ w16.heap.size := ht.size
  have bw16 : Below w.heap.size w w16 := bw15.trans (ht.mono bw15.size)
  have A0_16 := A0_15.below ht
  have BR0_16 := BR0_15.below ht
  have BX0_16 := BX0_15.below ht
  have BG0_16 := BG0_15.below ht
  have BH0_16 := BH0_15.below ht
  have ⟨zA0_16, cA0_16⟩ := A0_16
  have ⟨zBR0_16, cBR0_16⟩ := BR0_16
  have ⟨zBX0_16, cBX0_16⟩ := BX0_16
  have ⟨zBG0_16, cBG0_16⟩ := BG0_16
  have ⟨zBH0_16, cBH0_16⟩ := BH0_16
  have R0_16 := R0_15.below ht (Nat.le_refl _)
  have G0_16 := G0_15.below ht (Nat.le_refl _)
  have H0_16 := H0_15.below ht (Nat.le_refl _)
  clear A0_15 cA0_15 BR0_15 cBR0_15 BX0_15 cBX0_15 BG0_15 cBG0_15 BH0_15 cBH0_15 R0_15 G0_15 H0_15
  clear ht hb
  go_wp2_with fail
  go_ret
  exact ⟨rfl, bw16⟩

theorem rd_of_trod {H : Type} {enc : TypeId × Value → H} {W : World} {fuel : Nat} {c : Value} {y : DataW H × List MemPlace}
    (h : DataW.trod enc Try.prog W 0 (fun _ => true) true fuel 33 [c] = some y) : ∃ (a : Option Addr) (xs : List Int) (cap : Nat), c = .slice a xs.length cap ∧ Rd W a xs ∧ ∀ k, k < xs.length → (Lit.int .i64 (nth xs k)).wf = true := by
  rcases Go.ChangeShapes.open_ints Try.underlying33 Try.underlying3 (by kernel_rfl) h with ⟨hcs, _⟩ | ⟨x, len, cap, zs, hcs, _, hl, hm, hz, _, hcell, hwf⟩
  · simp only [List.cons.injEq, and_true] at hcs
    exact ⟨none, [], 0, hcs, ⟨by simp, fun k hk => by simp at hk⟩, fun k hk => by simp at hk⟩
  · simp only [List.cons.injEq, and_true] at hcs
    simp only [if_true] at hz
    have hlen : (zs.take len).length = len := by rw [List.length_take]; omega
    have hn : ∀ k, k < len → nth (zs.take len) k = zs.getD k 0 := by
      intro k hk
      simp only [nth, List.getD_eq_getElem?_getD, List.getElem?_take, hk, if_true]
    refine ⟨some x, zs.take len, cap, by rw [hlen]; exact hcs, ⟨by rw [hlen]; unfold maxLen at hm; omega, fun k hk => ?_⟩, fun k hk => ?_⟩
    · rw [hlen] at hk
      obtain ⟨b, off, sp⟩ := x
      have h0 := hcell 0 (by omega)
      have hsp : sp = none := by simpa [Addr.add] using World.cell?_spot h0
      subst hsp
      have hk' := hcell k (by omega)
      rw [Addr.add_lit] at hk'
      exact ⟨b, off, rfl, World.block_lt_of_cell? _ _ h0, by rw [hk', hn k hk]⟩
    · rw [hlen] at hk
      rw [hn k hk]
      have hk2 : k < zs.length := by omega
      exact hwf _ (by rw [List.getD_eq_getElem?_getD, List.getElem?_eq_getElem hk2]; exact List.getElem_mem hk2)

theorem own : ownKnob Try.prog.godebug = none := by kernel_rfl
theorem laidOut : laidOutB Try.prog = true := by kernel_rfl
theorem wf_bd {n : Int} (h : (Lit.int .i64 n).wf = true) : -9223372036854775808 ≤ n ∧ n ≤ 9223372036854775807 := by
  simp [Lit.wf, IntKind.min, IntKind.max, IntKind.bits, IntKind.signed] at h
  omega

theorem rdS_of_trod {H : Type} {enc : TypeId × Value → H} {W : World} {fuel : Nat} {c : Value} {y : DataW H × List MemPlace}
    (h : DataW.trod enc Try.prog W 0 (fun _ => true) true fuel 22 [c] = some y) : ∃ (a : Option Addr) (xss : List (List Int)) (cap : Nat), c = .slice a xss.length cap ∧ RdS W a xss := by
  rcases Go.Deep.open_int_rows Try.underlying22 Try.underlying33 Try.underlying3 (by kernel_rfl) (by kernel_rfl) h with ⟨hcs, _⟩ | ⟨x, len, cap, A, L, C, Z, hcs, _, hl, hm, _, hr⟩
  · simp only [List.cons.injEq, and_true] at hcs
    exact ⟨none, [], 0, hcs, ⟨by simp, fun k hk => by simp at hk⟩⟩
  · simp only [List.cons.injEq, and_true] at hcs
    have hlen : ((List.range len).map fun r => (Z r).take (L r)).length = len := by simp
    refine ⟨some x, (List.range len).map fun r => (Z r).take (L r), cap, by rw [hlen]; exact hcs, ⟨by rw [hlen]; unfold maxLen at hm; omega, fun k hk => ?_⟩⟩
    rw [hlen] at hk
    rw [show rowL ((List.range len).map fun r => (Z r).take (L r)) k = (Z k).take (L k) by simp [rowL, hk]]
    obtain ⟨b, off, sp⟩ := x
    obtain ⟨h0, hLC, hCm, hZ, hwf, hnone, hcell⟩ := hr k (by omega)
    have hsp : sp = none := by simpa [Addr.add] using World.cell?_spot (hr 0 (by omega)).1
    subst hsp
    rw [Addr.add_lit] at h0
    have hlz : ((Z k).take (L k)).length = L k := by rw [List.length_take]; omega
    refine ⟨b, off, A k, C k, rfl, World.block_lt_of_cell? _ _ h0, by rw [hlz]; exact h0, ⟨by rw [hlz]; unfold maxLen at hCm; omega, fun c hc => ?_⟩⟩
    rw [hlz] at hc
    cases hA : A k with
    | none => have := hnone hA; omega
    | some a' =>
      have h1 := (hcell a' hA).2 c (by omega)
      obtain ⟨b', off', sp'⟩ := a'
      have hsp' : sp' = none := by simpa [Addr.add] using World.cell?_spot ((hcell _ hA).2 0 (by omega))
      subst hsp'
      rw [Addr.add_lit] at h1
      refine ⟨b', off', rfl, World.block_lt_of_cell? _ _ h1, ?_⟩
      rw [h1]
      simp [nth, List.getD_eq_getElem?_getD, List.getElem?_take, hc]

theorem cellsM : Try.prog.cellsOf 24 = 1 := by kernel_rfl
open Go.ChangeShapes Go.WideShapes Go.ChangeAt Go.RowKit in
theorem open_agg1 {H : Type} {enc : TypeId × Value → H} {P : Program} {w : World} {base : Nat} {spare : Nat → Bool} {held : Bool} {r : Reach} {b0 : Nat} {t : TypeId} {f0 : Field} {v : Value} {d : DataW H} {p : List MemPlace} (hs : P.underlying t = some (.struct #[f0])) (hone : f0.offset = 0 ∧ P.cellsOf f0.type = 1) (hC : P.cellsOf t = 1)
    (hv : Value.okWide P w r b0 t v) (h : DataW.Trod enc P w base spare held t v d p) :
    ∃ (v0 : Value) (y0 : DataW H × List MemPlace) (n : Nat), v = .agg #[v0] ∧ d = .agg [y0.1] ∧ p = y0.2 ∧ DataW.trod enc P w base spare held n f0.type [v0] = some y0 := by
  obtain ⟨cs, rfl, hsz⟩ := okWide_struct hs hv
  rw [hC] at hsz
  obtain ⟨l⟩ := cs
  obtain ⟨c0, rfl⟩ : ∃ c0, l = [c0] := by
    match l, hsz with
    | [c], _ => exact ⟨c, rfl⟩
  obtain ⟨fuel, hf⟩ := h
  obtain ⟨y0, n, hx, _, h0⟩ := trod_struct1 hs hf
  simp only [Prod.mk.injEq] at hx
  refine ⟨c0, y0, n, rfl, hx.1, hx.2, by simpa [Value.cells, hone.1, hone.2] using h0⟩

open Go.ChangeShapes Go.WideShapes Go.ChangeAt Go.RowKit in
set_option maxRecDepth 100000 in
theorem lifted (os : Os) (started : os.Started) (H : Type) (enc : TypeId × Value → H) :
    ReturnsInHanded {} Try.checked os 8 .any (Rows.fnExactFlattenMatrixSpec.pre6 enc Try.prog Try.f8 Rows.fnExactFlattenMatrixRow.domain false) (Rows.fnExactFlattenMatrixSpec.post enc Try.prog Try.f8 false true false false) := by
  refine returnsInHanded_of_change (C := Try.checked) own started (by kernel_rfl) Try.func8
    (ChangeSpec.witness6 (enc := enc) (C := Try.checked) false ⟨#[], #[.agg #[.slice none 0 0]], []⟩ 8 (by kernel_rfl) (by kernel_rfl) (by kernel_rfl) (by kernel_rfl)) ?_
  intro W base args ds gs before hval0 hW hcnd _
  have hval : ∀ (j : Nat) t v, Try.f8.params[j]? = some t → args[j]? = some v → Value.okWide Try.prog W .any base t v := hval0
  have hW' := hW
  obtain ⟨p, q, hA0, hV, rfl, hfz, hnd⟩ := hW
  have hA : DataW.TrodAll enc Try.prog W 0 (fun _ => true) true Try.f8.params.toList args.toList ds p := hA0
  rw [Try.params8] at hA hval
  obtain ⟨v0, vs0, d0, ds0, p0, q0, hargs, rfl, rfl, h0, r0⟩ := trodAll_cons hA
  obtain ⟨rfl, rfl, rfl⟩ := trodAll_nil r0
  obtain rfl : args = #[v0] := by cases args; simp_all
  obtain ⟨rfl, rfl⟩ := trodVars_none hV
  have lt0 : ∀ x ∈ p0, x.block < W.heap.size := by obtain ⟨m, hm⟩ := h0; exact DataW.trod_lt m _ _ _ hm
  obtain ⟨c00, y00, m0, rfl, hd0, hp0, hy00⟩ := open_agg1 Try.underlying24 ⟨by kernel_rfl, by kernel_rfl⟩ cellsM (hval 0 24 v0 rfl rfl) h0
  obtain ⟨a0, xss0, cap0, rfl, rd0⟩ := rdS_of_trod hy00
  clear hA0 hval0
  refine (walk a0 xss0 cap0 W rd0).mono fun e W' ⟨he, bel⟩ => ?_
  subst he
  exact ⟨_, rfl, _, _, _, [], _, [], hW', trodAll_mk1 (shut_bool Try.underlying4 _), (trodAll_cons_mk (Below.trod laidOut (by kernel_rfl) (of_decide_eq_true (by kernel_rfl)) h0 bel lt0) trodAll_mk0), rfl, bel.frame _, fun h => by cases h⟩
theorem proved : Rows.FnExactFlattenMatrixSaid :=
  OpenClaim.holds_of_wide 8 Try.f8 rfl rfl rfl rfl rfl rfl rfl ⟨rfl, rfl, rfl, rfl, rfl⟩ rfl rfl rfl rfl rfl (by kernel_rfl) Try.func8 (by kernel_rfl)
    (of_decide_eq_true (by kernel_rfl)) (by unfold Func.isWrapper; first | (rw [if_pos (by decide +kernel)]; kernel_rfl) | (rw [if_neg (by decide +kernel)]; exact ⟨rfl, rfl⟩))
    (fun os started H enc _ => lifted os started H enc)

end Go.Proofs.Ytcklfnpgnbhklaa.flattenMatrix
