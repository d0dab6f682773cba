/- PROVED: the law FnMatchingsAreMatrices returns true for every input, and each of its arguments reads afterwards as before. No conditions. -/
import Derived.Test.YtkpfjemlldiogaaRows
import Derived.WalkKit
import Derived.WalkSpells
import Derived.WalkLawsBesides
import Derived.Deep.QuietTactic
import Derived.BigQuiet
import Derived.ProofKit
import Derived.OpenShut
import Derived.ShutString
import Derived.ChangeOld
import Derived.Below
import Derived.Lib.SmallJoins
import Derived.Lib.Hide
import Derived.Maps.AppendAt
import Derived.Deep.AppendLies
import Derived.Deep.RegionLaw
import Derived.Deep.RegionHeld3
import Derived.Shelf.Slices.Reverse
import Derived.Shelf.Slices.Equal
import Derived.Shelf.Slices.Clone
import Derived.Shelf.Slices.Delete
import Derived.Shelf.Slices.Cells
import Derived.Shelf.Slices.Empties
import Derived.Shelf.Slices.Empties2
import Derived.Shelf.SlicesE.Clone
import Derived.Sort.OwnSortedInts
import Derived.Test.YtkpfjemlldiogaaMatchingsAreMatricesP2
namespace Go.Proofs.Ytkpfjemlldiogaa.matchingsAreMatrices
open Go Go.RowKit
set_option linter.unusedVariables false
set_option linter.unusedSimpArgs false
set_option maxHeartbeats 400000
open Go.Shelf
set_option maxRecDepth 100000 in
theorem isUpper_any (a : Option Addr) (xss : List (List Int)) (cap : Nat) (w : World) (hx : RdC w a xss) :
    Calls Try.prog 173 #[.agg #[.slice a xss.length cap]] w fun e w' => e = .returned (.bool (upB xss)) ∧ Below w.heap.size w w' := by
  have hlen := hx.rd.len
  have HX := Lib.hid hx
  have b1 : Below w.heap.size w (w.alloc (.cells #[.slice a xss.length cap] 62)) := (by repeat (first | exact Below.refl _ _ | assumption | refine Below.alloc ?_ (by first | exact Nat.le_refl _ | (simp only [World.size_alloc, World.size_setCell, World.size_drew]; omega) | omega) _ | refine Below.setCell ?_ (by first | exact Nat.le_refl _ | (simp only [World.size_alloc, World.size_setCell, World.size_drew]; omega) | omega) _ | refine Below.drew ?_))
  clear hx
  go_enter Try.func173, Try.ntmps173
  go_wp2_with fail
  go_loop [10] (fun i => ∃ k : Nat, k ≤ xss.length ∧ i = .int .i64 k ∧ Hid (∀ j, j < k → (rowL xss j).length = xss.length ∧ ∀ q, q < j → atM xss j q = 0)) (fun i => xss.length - (intOf i).toNat)
  case atStart => exact ⟨0, Nat.zero_le _, rfl, fun j hj => by omega⟩
  case round =>
    obtain ⟨k, hk, rfl, HA⟩ := hrel
    by_cases hlt : k < xss.length
    · obtain ⟨b, off, a', cap', rfl, hbl, hc, hr, hcp⟩ := (HX.out.below b1).row hlt
      have k1 : (k : Int) < (xss.length : Int) := by omega
      by_cases hq : (rowL xss k).length = xss.length
      · have hqq : (((rowL xss k).length : Int) != (xss.length : Int)) = false := by simp [hq]
        have HQ := Lib.hid hq
        obtain ⟨b2, off2, rfl, hbl2, hc2⟩ := hr.cell 0 (by omega)
        have HR := Lib.hid hr
        have k2 : k ≤ cap' := by omega
        have k3 : k ≤ (rowL xss k).length := by omega
        have hrl := hr.len
        clear hq hr hc2
        go_wp2_with fail
        go_loop [25] (fun i => ∃ q : Nat, q ≤ k ∧ i = .int .i64 q ∧ Hid (∀ j, j < q → atM xss k j = 0)) (fun i => k - (intOf i).toNat)
        case atStart => exact ⟨0, Nat.zero_le _, rfl, fun j hj => by omega⟩
        case round =>
          obtain ⟨q, hq2, rfl, HU⟩ := hrel
          by_cases hlt2 : q < k
          · obtain ⟨b3, off3, e3, hbl3, hc3⟩ := HR.out.cell q (by omega)
            simp only [Option.some.injEq, Addr.mk.injEq, and_true] at e3
            obtain ⟨rfl, rfl⟩ := e3
            have q1 : (q : Int) < (k : Int) := by omega
            by_cases hz : nth (rowL xss k) q = 0
            · have hzz : (nth (rowL xss k) q != 0) = false := by simp [hz]
              have HZ : Hid (atM xss k q = 0) := hz
              clear hz
              go_wp2_with fail
              go_round
              case rel =>
                refine ⟨q + 1, by omega, by go_num, fun j hj => ?_⟩
                by_cases e : j = q
                · rw [e]; exact HZ.out
                · exact HU.out j (by omega)
              case measure => simp [intOf]; omega
            · have hzz : (nth (rowL xss k) q != 0) = true := by simp [hz]
              have H : Hid (upB xss = false) := by
                rw [Hid, ← Bool.not_eq_true, upB_iff]
                intro h
                exact hz ((h k hlt).2 q hlt2)
              clear hz
              go_wp2_with fail
              go_ret
              exact ⟨ret_bool H.out.symm, (by repeat (first | exact Below.refl _ _ | assumption | refine Below.alloc ?_ (by first | exact Nat.le_refl _ | (simp only [World.size_alloc, World.size_setCell, World.size_drew]; omega) | omega) _ | refine Below.setCell ?_ (by first | exact Nat.le_refl _ | (simp only [World.size_alloc, World.size_setCell, World.size_drew]; omega) | omega) _ | refine Below.drew ?_))⟩
          · obtain rfl : q = k := by omega
            go_wp2_with fail
            go_round
            case rel =>
              refine ⟨q + 1, by omega, by go_num, fun j hj => ?_⟩
              by_cases e : j = q
              · rw [e]; exact ⟨HQ.out, HU.out⟩
              · exact HA.out j (by omega)
            case measure => simp [intOf]; omega
      · have hqq : (((rowL xss k).length : Int) != (xss.length : Int)) = true := by simp; omega
        have H : Hid (upB xss = false) := by
          rw [Hid, ← Bool.not_eq_true, upB_iff]
          intro h
          exact hq (h k hlt).1
        clear hq hr
        go_wp2_with fail
        go_ret
        exact ⟨ret_bool H.out.symm, (by repeat (first | exact Below.refl _ _ | assumption | refine Below.alloc ?_ (by first | exact Nat.le_refl _ | (simp only [World.size_alloc, World.size_setCell, World.size_drew]; omega) | omega) _ | refine Below.setCell ?_ (by first | exact Nat.le_refl _ | (simp only [World.size_alloc, World.size_setCell, World.size_drew]; omega) | omega) _ | refine Below.drew ?_))⟩
    · obtain rfl : k = xss.length := by omega
      have H : Hid (upB xss = true) := upB_iff.2 HA.out
      go_wp2_with fail
      go_ret
      exact ⟨ret_bool H.out.symm, (by repeat (first | exact Below.refl _ _ | assumption | refine Below.alloc ?_ (by first | exact Nat.le_refl _ | (simp only [World.size_alloc, World.size_setCell, World.size_drew]; omega) | omega) _ | refine Below.setCell ?_ (by first | exact Nat.le_refl _ | (simp only [World.size_alloc, World.size_setCell, World.size_drew]; omega) | omega) _ | refine Below.drew ?_))⟩

theorem colsL_sq (xss : List (List Int)) : colsL xss = sqM (fun a b => atM xss b a) xss.length xss.length := rfl

def colF (xss : List (List Int)) (k q : Nat) (a b : Nat) : Int := if b < k ∨ (b = k ∧ a < q) then atM xss b a else 0
theorem colF_end {xss : List (List Int)} {n : Nat} : sqM (colF xss n 0) n n = sqM (fun a b => atM xss b a) n n :=
  sqM_congr (fun a ha b hb => by rw [colF, if_pos (.inl hb)])
theorem colF_next {xss : List (List Int)} {n k : Nat} : sqM (colF xss k n) n n = sqM (colF xss (k+1) 0) n n :=
  sqM_congr (fun a ha b hb => by
    rw [colF, colF]
    by_cases h : b < k + 1
    · rw [if_pos (by omega), if_pos (.inl h)]
    · rw [if_neg (by omega), if_neg (by omega)])
theorem colF_zero {xss : List (List Int)} {n : Nat} : sqM (fun _ _ => 0) n n = sqM (colF xss 0 0) n n :=
  sqM_congr (fun a ha b hb => by rw [colF, if_neg (by omega)])
theorem colF_step {xss : List (List Int)} {n k q : Nat} (hk : k < n) (hq : q < n) : setM (sqM (colF xss k q) n n) q k (atM xss k q) = sqM (colF xss k (q+1)) n n := by
  rw [setM_sq hq hk]
  refine sqM_congr (fun a ha b hb => ?_)
  rw [colF, colF]
  by_cases h : a = q ∧ b = k
  · obtain ⟨rfl, rfl⟩ := h
    rw [if_pos ⟨rfl, rfl⟩, if_pos (.inr ⟨rfl, by omega⟩)]
  · rw [if_neg h]
    by_cases h2 : b < k ∨ (b = k ∧ a < q)
    · rw [if_pos h2, if_pos (by omega)]
    · rw [if_neg h2, if_neg (by omega)]
set_option maxRecDepth 100000 in
set_option maxHeartbeats 1000000 in
theorem columnsOf_any (a : Option Addr) (xss : List (List Int)) (cap : Nat) (w : World) (hx : RdS w a xss) (h12 : xss.length ≤ 12) (hl : ∀ k, k < xss.length → (rowL xss k).length = xss.length) :
    Calls Try.prog 116 #[.agg #[.slice a xss.length cap]] w fun e w' => ∃ g vl, e = .returned (.slice (some ⟨g, 0, none⟩) xss.length xss.length) ∧ RowsP w' w.heap.size (.slice (some ⟨g, 0, none⟩) xss.length xss.length) vl (colsL xss) ∧ Below w.heap.size w w' := by
  have hlen := hx.len
  have HX := Lib.hid hx
  have HL := Lib.hid hl
  clear hx hl
  go_enter Try.func116, Try.ntmps116
  go_wp2_with fail
  refine (zeroRows_any xss.length _ h12).mono ?_
  rintro e w1 ⟨g, vl0, rfl, hro0, hb0⟩
  have b1 : Below w.heap.size w w1 := Below.trans (by repeat (first | exact Below.refl _ _ | assumption | refine Below.alloc ?_ (by first | exact Nat.le_refl _ | (simp only [World.size_alloc, World.size_setCell, World.size_drew]; omega) | omega) _ | refine Below.setCell ?_ (by first | exact Nat.le_refl _ | (simp only [World.size_alloc, World.size_setCell, World.size_drew]; omega) | omega) _ | refine Below.drew ?_)) (hb0.mono (by first | (simp only [World.size_alloc, World.size_setCell, World.size_drew]; omega) | omega))
  have hro1 := hro0.mono (B' := w.heap.size) (by simp)
  rw [colF_zero (xss := xss)] at hro1
  have hc0 := (hb0.cell (p := ⟨w.heap.size, 0, none⟩) (by simp)).trans (show _ = some (Value.slice a xss.length cap) by simp)
  have hs1 := b1.size
  obtain ⟨N, hN⟩ : ∃ N, N = xss.length := ⟨_, rfl⟩
  have HN := Lib.hid hN
  rw [← hN] at hlen h12 hro1 hc0 ⊢
  have HRO := Lib.hid hro1
  clear hro0 hro1 hb0 hN
  go_wp2_with fail
  go_loopw [15] (fun i wr => ∃ (k : Nat) (vl : List Value), k ≤ N ∧ i = .int .i64 k ∧ RowsP wr w.heap.size (.slice (some ⟨g, 0, none⟩) N N) vl (sqM (colF xss k 0) N N) ∧ Below w.heap.size w wr) (fun i _ => N - (intOf i).toNat)
  case atStart => exact ⟨0, _, Nat.zero_le _, rfl, HRO.out, b1⟩
  case round =>
    obtain ⟨k, vl, hk, rfl, hro, hb⟩ := hrel
    have hbs := hb.size
    have HR := Lib.hid hro
    clear hro
    by_cases hlt : k < N
    · obtain ⟨b, off, a', cap', rfl, hbl, hc, hr⟩ := HX.out.row k (by rw [← HN.out]; exact hlt)
      have hrn := HL.out k (by rw [← HN.out]; exact hlt)
      rw [← HN.out] at hrn
      obtain ⟨b2, off2, rfl, hbl2, hc2⟩ := hr.cell 0 (by omega)
      rw [hrn] at hc
      have hc1 := (hb.cell (p := ⟨b, off + k, none⟩) hbl).trans hc
      have HRN := Lib.hid hrn
      have HRD := Lib.hid hr
      have hbl1 : b < wr.heap.size := by omega
      have k1 : (k : Int) < (N : Int) := by omega
      clear hrn hr hc2 hc
      go_wp2_with fail
      go_loopw [22] (fun i wq => ∃ (q : Nat) (vl : List Value), q ≤ N ∧ i = .int .i64 q ∧ RowsP wq w.heap.size (.slice (some ⟨g, 0, none⟩) N N) vl (sqM (colF xss k q) N N) ∧ Below w.heap.size w wq) (fun i _ => N - (intOf i).toNat)
      case atStart => exact ⟨0, _, Nat.zero_le _, rfl, HR.out, hb⟩
      case round =>
        obtain ⟨q, vl2, hq, rfl, hro2, hb2⟩ := hrel
        by_cases hlt2 : q < N
        · obtain ⟨b3, off3, e3, hbl3, hc3⟩ := (HRD.out.below hb2).cell q (by rw [HRN.out]; exact hlt2)
          simp only [Option.some.injEq, Addr.mk.injEq, and_true] at e3
          obtain ⟨rfl, rfl⟩ := e3
          obtain ⟨g4, e4, hg4, hg5, hc4, hf4⟩ := hro2.outer (k := q) (by rw [sqM_len]; exact hlt2)
          simp only [Option.some.injEq, Addr.mk.injEq, and_true] at e4
          subst e4
          obtain ⟨g6, c6, e6, hg6, hg7, hc6, hf6, hnew⟩ := hro2.num (i := q) (j := k) (by rw [sqM_len]; exact hlt2) (by rw [sqM_rlen hlt2]; exact hlt)
          have hn2 := hnew (atM xss k q)
          rw [colF_step hlt hlt2] at hn2
          rw [e6, sqM_rlen hlt2] at hc4
          have HN2 := Lib.hid hn2
          have q1 : (q : Int) < (N : Int) := by omega
          have hat : nth (rowL xss k) q = atM xss k q := rfl
          rw [hat] at hc3
          have b7 := hb2.setCell (p := ⟨g6, k, none⟩) hg6 (.int .i64 (atM xss k q))
          clear hro2 hnew hn2 hat e6
          go_wp2_with fail
          go_roundw
          case rel => exact ⟨q + 1, vl2, by omega, by go_num, HN2.out, b7⟩
          case measure => simp [intOf]; omega
        · obtain rfl : q = N := by omega
          rw [colF_next] at hro2
          go_wp2_with fail
          go_roundw
          case rel => exact ⟨k + 1, _, by omega, by go_num, hro2, hb2⟩
          case measure => simp [intOf]; omega
    · obtain rfl : k = N := by omega
      have HR2 := HR.out
      rw [colF_end] at HR2
      have HE : Hid (colsL xss = sqM (fun a b => atM xss b a) k k) := by rw [Hid, colsL_sq, ← HN.out]
      have HR3 := Lib.hid HR2
      clear HR2
      go_wp2_with fail
      go_ret
      exact ⟨g, vl, by rw [← HN.out]; rfl, by rw [HE.out, ← HN.out]; exact HR3.out, hb⟩

theorem totS_sq {f : Nat → Nat → Int} {n m : Nat} : ∀ {k : Nat}, k ≤ n → totS (sqM f n m) k = k * m
  | 0, _ => by simp [totS]
  | k+1, h => by rw [totS, totS_sq (by omega), sqM_rlen (by omega), Nat.succ_mul]
theorem sq_small {f : Nat → Nat → Int} {n : Nat} (h : n ≤ 13) : (sqM f n n).length + totS (sqM f n n) (sqM f n n).length ≤ 1048576 := by
  rw [sqM_len, totS_sq (Nat.le_refl _)]
  have := Nat.mul_le_mul h h
  omega
set_option maxRecDepth 100000 in
set_option maxHeartbeats 1000000 in
theorem rowsOf_any (a : Option Addr) (xss : List (List Int)) (cap : Nat) (w : World) (hx : RdC w a xss) (hs : xss.length + totS xss xss.length ≤ 1048576) :
    Calls Try.prog 114 #[.agg #[.slice a xss.length cap]] w fun e w' => ∃ s va vn vc, e = .returned (.tuple #[.agg #[.int .i64 s, .slice va vn vc], .bool (mxB xss)]) ∧ (mxB xss = true → s = matS xss xss.length ∧ ∃ vl, SumP w' w.heap.size (.slice va vn vc) vl xss) ∧ Below w.heap.size w w' := by
  have hlen := hx.rd.len
  have HX := Lib.hid hx
  have HS := Lib.hid hs
  clear hx hs
  go_enter Try.func114, Try.ntmps114
  obtain ⟨W0, hW0⟩ : ∃ x : World, x = (w.alloc (.cells #[.slice a xss.length cap] 62)).alloc (.cells #[.int .i64 0, .slice none 0 0] 120) := ⟨_, rfl⟩
  have HW0 := Lib.hid hW0
  have b0 : Below w.heap.size w W0 := by rw [hW0]; exact (by repeat (first | exact Below.refl _ _ | assumption | refine Below.alloc ?_ (by first | exact Nat.le_refl _ | (simp only [World.size_alloc, World.size_setCell, World.size_drew]; omega) | omega) _ | refine Below.setCell ?_ (by first | exact Nat.le_refl _ | (simp only [World.size_alloc, World.size_setCell, World.size_drew]; omega) | omega) _ | refine Below.drew ?_))
  have c0 : W0.cell? ⟨w.heap.size, 0, none⟩ = some (.slice a xss.length cap) := by rw [hW0]; simp
  have hR0 : Var2 W0 (w.heap.size + 1) (.int .i64 0) (.slice none 0 0) := by
    have h := Var2.new (w.alloc (.cells #[.slice a xss.length cap] 62)) (.int .i64 0) (.slice none 0 0) 120
    rw [World.size_alloc] at h
    rw [hW0]; exact h
  have hz0 : w.heap.size + 2 = W0.heap.size := by rw [hW0]; simp
  have HCALL := Lib.hid (iAddUp_any a xss cap W0 (HX.out.below b0).rd HS.out)
  rw [hW0] at HCALL
  clear hW0
  go_wp2_with fail
  refine HCALL.out.mono ?_
  rintro e w1 ⟨s, va, vn, vc, rfl, hok, hb1⟩
  rw [← HW0.out] at hok hb1
  have b1 : Below w.heap.size w w1 := b0.trans (hb1.mono (by omega))
  have c1 := (hb1.cell (p := ⟨w.heap.size, 0, none⟩) (show w.heap.size < W0.heap.size by omega)).trans c0
  have hR1 := hR0.below hb1
  have hs1 := hb1.size
  clear hb1 b0 c0 hR0 HCALL HW0
  obtain ⟨W2, hW2⟩ : ∃ x : World, x = w1.alloc (.cells #[.int .i64 s, .slice va vn vc] 120) := ⟨_, rfl⟩
  have HW2 := Lib.hid hW2
  have bb2 : Below w1.heap.size w1 W2 := by rw [hW2]; exact (by repeat (first | exact Below.refl _ _ | assumption | refine Below.alloc ?_ (by first | exact Nat.le_refl _ | (simp only [World.size_alloc, World.size_setCell, World.size_drew]; omega) | omega) _ | refine Below.setCell ?_ (by first | exact Nat.le_refl _ | (simp only [World.size_alloc, World.size_setCell, World.size_drew]; omega) | omega) _ | refine Below.drew ?_))
  have b2 : Below w.heap.size w W2 := b1.trans (bb2.mono b1.size)
  have hA2 : Box2 W2 w1.heap.size (.int .i64 s) (.slice va vn vc) := by rw [hW2]; exact Box2.new _ _ _ _
  have hR2 := hR1.below bb2
  have c2 := (bb2.cell (p := ⟨w.heap.size, 0, none⟩) (show w.heap.size < w1.heap.size by omega)).trans c1
  have hs2 : w1.heap.size ≤ W2.heap.size := bb2.size
  clear hR1 c1
  subst hW2
  have ⟨zA2, cA2, dA2⟩ := hA2
  have ⟨⟨zR2, cR2, dR2⟩, fR2, gR2⟩ := hR2
  cases had : adB xss
  · have HF := Lib.hid had
    have HM : Hid (mxB xss = false) := by simp [Hid, mxB, had]
    clear had hok
    go_wp2_with fail
    have hR7 := hR2.set (.int .i64 s) (.slice va vn vc)
    have b7 := (b2.setCell (p := ⟨w.heap.size + 1, 0, none⟩) (by simp) (.int .i64 s)).setCell (p := ⟨w.heap.size + 1, 1, none⟩) (by simp) (.slice va vn vc)
    refine bodyPost_ret (v := .tuple #[.agg #[.int .i64 s, .slice va vn vc], .bool false]) (by have ⟨⟨_, q1, q2⟩, _, _⟩ := hR7; simp [results, Try.results114, go_sem, q1, q2]) rfl ?_
    exact ⟨s, va, vn, vc, by rw [HM.out], (by intro h; rw [HM.out] at h; cases h), b7⟩
  · have HF := Lib.hid had
    have HOK := Lib.hid (hok had)
    have h12 := adB_small had
    clear had hok
    have HUC := Lib.hid (isUpper_any a xss cap _ (HX.out.below b2))
    cases hup : upB xss
    · have HU := Lib.hid hup
      have HM : Hid (mxB xss = false) := by simp [Hid, mxB, hup]
      clear hup
      go_wp2_with fail
      refine HUC.out.mono ?_
      rintro e w3 ⟨rfl, hb3⟩
      rw [HU.out]
      have hA3 := hA2.below hb3
      have hR3 := hR2.below hb3
      have b3 := b2.trans (hb3.mono b2.size)
      have ⟨zA3, cA3, dA3⟩ := hA3
      have ⟨⟨zR3, cR3, dR3⟩, fR3, gR3⟩ := hR3
      clear hb3
      go_wp2_with fail
      have hR7 := hR3.set (.int .i64 s) (.slice va vn vc)
      have b7 := (b3.setCell (p := ⟨w.heap.size + 1, 0, none⟩) (by simp) (.int .i64 s)).setCell (p := ⟨w.heap.size + 1, 1, none⟩) (by simp) (.slice va vn vc)
      refine bodyPost_ret (v := .tuple #[.agg #[.int .i64 s, .slice va vn vc], .bool false]) (by have ⟨⟨_, q1, q2⟩, _, _⟩ := hR7; simp [results, Try.results114, go_sem, q1, q2]) rfl ?_
      exact ⟨s, va, vn, vc, by rw [HM.out], (by intro h; rw [HM.out] at h; cases h), b7⟩
    · have HU := Lib.hid hup
      have HL : Hid (∀ k, k < xss.length → (rowL xss k).length = xss.length) := fun k hk => (upB_iff.1 hup k hk).1
      have HM : Hid (mxB xss = adB (colsL xss)) := by rw [Hid, mxB, HF.out, hup]; rfl
      clear hup
      go_wp2_with fail
      refine HUC.out.mono ?_
      rintro e w3 ⟨rfl, hb3⟩
      rw [HU.out]
      have hA3 := hA2.below hb3
      have hR3 := hR2.below hb3
      have b3 := b2.trans (hb3.mono b2.size)
      have hs3 : w1.heap.size ≤ w3.heap.size := by have := hb3.size; simp at this; omega
      have c3 := (hb3.cell (p := ⟨w.heap.size, 0, none⟩) (by simp; omega)).trans c2
      have ⟨zA3, cA3, dA3⟩ := hA3
      have ⟨⟨zR3, cR3, dR3⟩, fR3, gR3⟩ := hR3
      have bb3 : Below w1.heap.size w1 w3 := bb2.trans (hb3.mono (by simp))
      clear hb3
      go_wp2_with fail
      refine (columnsOf_any a xss cap _ (HX.out.below b3).rd h12 HL.out).mono ?_
      rintro e w4 ⟨g, vlc, rfl, hro, hb4⟩
      have hA4 := hA3.below hb4
      have hR4 := hR3.below hb4
      have b4 := b3.trans (hb4.mono b3.size)
      have hs4 : w3.heap.size ≤ w4.heap.size := hb4.size
      have ⟨zA4, cA4, dA4⟩ := hA4
      have ⟨⟨zR4, cR4, dR4⟩, fR4, gR4⟩ := hR4
      have hAU := iAddUp_any (some ⟨g, 0, none⟩) (colsL xss) xss.length w4 hro.o.rd (by rw [colsL_sq]; exact sq_small (by omega))
      rw [← HM.out, colsL_len] at hAU
      have HAU := Lib.hid hAU
      have bb4 : Below w1.heap.size w1 w4 := bb3.trans (hb4.mono hs3)
      clear hb4 hro hAU
      go_wp2_with fail
      refine HAU.out.mono ?_
      rintro e w5 ⟨s5, va5, vn5, vc5, rfl, _, hb5⟩
      have hA5 := hA4.below hb5
      have hR5 := hR4.below hb5
      have b5 := b4.trans (hb5.mono b4.size)
      have bb5 : Below w1.heap.size w1 w5 := bb4.trans (hb5.mono (by omega))
      have ⟨zA5, cA5, dA5⟩ := hA5
      have ⟨⟨zR5, cR5, dR5⟩, fR5, gR5⟩ := hR5
      have hs5 : w4.heap.size ≤ w5.heap.size := hb5.size
      clear hb5
      go_wp2_with fail
      have hR7 := hR5.set (.int .i64 s) (.slice va vn vc)
      have b7 := (b5.setCell (p := ⟨w.heap.size + 1, 0, none⟩) (by simp) (.int .i64 s)).setCell (p := ⟨w.heap.size + 1, 1, none⟩) (by simp) (.slice va vn vc)
      refine bodyPost_ret (v := .tuple #[.agg #[.int .i64 s, .slice va vn vc], .bool (mxB xss)]) (by have ⟨⟨_, q1, q2⟩, _, _⟩ := hR7; simp [results, Try.results114, go_sem, q1, q2]) rfl ?_
      refine ⟨s, va, vn, vc, rfl, fun _ => ⟨HOK.out.1, ?_⟩, b7⟩
      obtain ⟨vl, hp⟩ := HOK.out.2
      have hp5 := hp.below bb5 (Nat.le_refl _)
      have hset : ∀ (p : Addr) (u : Value) (w9 : World), p.block = w.heap.size + 1 → SumP w9 W0.heap.size (.slice va vn vc) vl xss → SumP (w9.setCell p u) W0.heap.size (.slice va vn vc) vl xss := fun p u w9 e h =>
        ⟨ownsRow_setCell_below h.own (by rw [e]; omega) u, h.vlen, fun k hk => (h.row k hk).setBelow (by rw [e]; omega) u, h.apart, h.pair⟩
      exact ⟨vl, (hset _ _ _ rfl (hset _ _ _ rfl hp5)).mono (by omega)⟩

def smV (xss : List (List Int)) : Int := if mxB xss then matS xss xss.length else 0

theorem ret_ib' {a a' : Int} {b b' : Bool} (h1 : a = a') (h2 : b = b') : Ending.returned (.tuple #[.int .i64 a, .bool b]) = .returned (.tuple #[.int .i64 a', .bool b']) := by rw [h1, h2]

theorem iSumMx_any (a : Option Addr) (xss : List (List Int)) (cap : Nat) (w : World) (hx : RdC w a xss) (hs : xss.length + totS xss xss.length ≤ 1048576) :
    Calls Try.prog 51 #[.agg #[.slice a xss.length cap]] w fun e w' => e = .returned (.tuple #[.int .i64 (smV xss), .bool (mxB xss)]) ∧ Below w.heap.size w w' := by
  have hlen := hx.rd.len
  have HCL := Lib.hid (fun W (h : RdC W a xss) => rowsOf_any a xss cap W h hs)
  cases hm : mxB xss
  · have HM := Lib.hid hm
    have H1 : Hid (smV xss = 0) := by simp [Hid, smV, hm]
    clear hm
    go_enter Try.func51, Try.ntmps51
    go_wp2_with fail
    refine (HCL.out _ (hx.below (by repeat (first | exact Below.refl _ _ | assumption | refine Below.alloc ?_ (by first | exact Nat.le_refl _ | (simp only [World.size_alloc, World.size_setCell, World.size_drew]; omega) | omega) _ | refine Below.setCell ?_ (by first | exact Nat.le_refl _ | (simp only [World.size_alloc, World.size_setCell, World.size_drew]; omega) | omega) _ | refine Below.drew ?_)))).mono ?_
    rintro e w1 ⟨s, va, vn, vc, rfl, _, hb⟩
    rw [HM.out]
    have b1 : Below w.heap.size w w1 := Below.trans (by repeat (first | exact Below.refl _ _ | assumption | refine Below.alloc ?_ (by first | exact Nat.le_refl _ | (simp only [World.size_alloc, World.size_setCell, World.size_drew]; omega) | omega) _ | refine Below.setCell ?_ (by first | exact Nat.le_refl _ | (simp only [World.size_alloc, World.size_setCell, World.size_drew]; omega) | omega) _ | refine Below.drew ?_)) (hb.mono (by first | (simp only [World.size_alloc, World.size_setCell, World.size_drew]; omega) | omega))
    clear hb
    go_wp2_with fail
    go_ret2
    exact ⟨ret_ib' H1.out.symm rfl, b1.alloc b1.size _⟩
  · have HM := Lib.hid hm
    have H1 : Hid (smV xss = matS xss xss.length) := by simp [Hid, smV, hm]
    clear hm
    go_enter Try.func51, Try.ntmps51
    go_wp2_with fail
    refine (HCL.out _ (hx.below (by repeat (first | exact Below.refl _ _ | assumption | refine Below.alloc ?_ (by first | exact Nat.le_refl _ | (simp only [World.size_alloc, World.size_setCell, World.size_drew]; omega) | omega) _ | refine Below.setCell ?_ (by first | exact Nat.le_refl _ | (simp only [World.size_alloc, World.size_setCell, World.size_drew]; omega) | omega) _ | refine Below.drew ?_)))).mono ?_
    rintro e w1 ⟨s, va, vn, vc, rfl, hok, hb⟩
    have hok2 := Lib.hid (hok HM.out).1
    rw [HM.out]
    have b1 : Below w.heap.size w w1 := Below.trans (by repeat (first | exact Below.refl _ _ | assumption | refine Below.alloc ?_ (by first | exact Nat.le_refl _ | (simp only [World.size_alloc, World.size_setCell, World.size_drew]; omega) | omega) _ | refine Below.setCell ?_ (by first | exact Nat.le_refl _ | (simp only [World.size_alloc, World.size_setCell, World.size_drew]; omega) | omega) _ | refine Below.drew ?_)) (hb.mono (by first | (simp only [World.size_alloc, World.size_setCell, World.size_drew]; omega) | omega))
    clear hb hok
    go_wp2_with fail
    go_ret2
    exact ⟨ret_ib' (by rw [H1.out, hok2.out]) rfl, b1.alloc b1.size _⟩

/-- what a call hands back that makes a list -/
def GotI (w : World) (ys : List Int) (ok : Bool) (e : Ending) (w' : World) : Prop :=
  ∃ a cap, e = .returned (.tuple #[.slice a ys.length cap, .bool ok]) ∧ OwnI w' w.heap.size (.slice a ys.length cap) ys ∧ Below w.heap.size w w'
theorem gotI_no {w w' : World} {ys : List Int} {ok : Bool} (h1 : ys = []) (h2 : ok = false) (hb : Below w.heap.size w w') : GotI w ys ok (.returned (.tuple #[.slice none 0 0, .bool false])) w' :=
  ⟨none, 0, by rw [h1, h2]; rfl, by rw [h1]; exact OwnI.nil _ _, hb⟩

set_option maxRecDepth 100000 in
set_option maxHeartbeats 1000000 in
theorem iMtMx_any (a : Option Addr) (xss : List (List Int)) (cap : Nat) (w : World) (hx : RdC w a xss) (hs : xss.length + totS xss xss.length ≤ 1048576) :
    Calls Try.prog 57 #[.agg #[.slice a xss.length cap]] w (GotI w (tmL xss) (mxB xss)) := by
  obtain ⟨i0, hi, hz0, hz1, hz2⟩ := info_parts infoInt
  obtain ⟨j0, hj0, hy0, hy1, hy2⟩ := info_parts infoRow0
  obtain ⟨W0, hW0⟩ : ∃ x : World, x = w.alloc (.cells #[.slice a xss.length cap] 62) := ⟨_, rfl⟩
  have bw0 : Below w.heap.size w W0 := by rw [hW0]; exact (Below.refl _ _).alloc (Nat.le_refl _) _
  have B0 : Box1 W0 w.heap.size (.slice a xss.length cap) := by rw [hW0]; exact Box1.new w _ _
  have hx0 := hx.below bw0
  obtain ⟨g0, hg0⟩ : ∃ g, g = w.heap.size := ⟨_, rfl⟩
  have HSM := Lib.hid (fun W (h : RdC W a xss) => iSumMx_any a xss cap W h hs)
  clear hx
  cases hb0 : mxB xss
  · have HL : Hid (tmL xss = []) := by simp [Hid, tmL, hb0]
    rw [hb0] at HSM
    clear hb0
    go_enter Try.func57, Try.ntmps57
    go_wp2_with fail
    rw [← hW0]
    rw [← hg0] at B0 ⊢
    have ⟨zB0, cB0⟩ := B0
    clear hg0 hW0
    go_wp2_with fail
    refine (HSM.out _ hx0).mono ?_
    rintro e w1 ⟨rfl, hb⟩
    clear cB0
    go_wp2_with fail
    refine bodyPost_ret (v := .tuple #[.slice none 0 0, .bool false]) (by simp [results, Try.results57, go_sem]) rfl ?_
    exact gotI_no HL.out rfl (bw0.trans (hb.mono bw0.size))
  · have h12 := mxB_small hb0
    have ⟨hN2, hN24⟩ := en_two hb0
    have HSV : Hid (smV xss = matS xss xss.length) := by simp [Hid, smV, hb0]
    have HIN := Lib.hid (tm_Inv (d := xss.length) (en_up xss))
    have HTL : Hid (tmL xss = P2 (tmF (enN xss) xss.length) (oP (enN xss) xss.length xss.length)) := by rw [Hid, tmL, if_pos hb0, P2_all HIN.out]
    have HM := Lib.hid hb0
    have HU := Lib.hid (en_up xss)
    rw [hb0, HSV.out] at HSM
    obtain ⟨N, hN⟩ : ∃ N, N = oP (enN xss) xss.length xss.length := ⟨_, rfl⟩
    obtain ⟨S, hS⟩ : ∃ S, S = matS xss xss.length := ⟨_, rfl⟩
    rw [← hN, ← hS] at hN2
    rw [← hN] at hN24
    rw [← hN] at HTL HIN
    rw [← hS] at HSM
    have hS0 : 0 ≤ S ∧ S ≤ 12 := by omega
    have HN := Lib.hid hN
    clear hS hb0 hN
    go_enter Try.func57, Try.ntmps57
    go_wp2_with fail
    rw [← hW0]
    rw [← hg0] at B0 ⊢
    have ⟨zB0, cB0⟩ := B0
    clear hg0 hW0
    go_wp2_with fail
    refine (HSM.out _ hx0).mono ?_
    rintro e w1 ⟨rfl, hb1⟩
    have ⟨zB1, cB1⟩ := B0.below hb1
    clear cB0
    go_wp2_with (first
      | (at_make; refine wpList_make_own _ rfl _ (.tmp 22) 24 rfl W0.heap.size 3 i0 (.int .i64 0) 1 Try.underlying24 hi hz0 hz1 .i64 .i64 _ N rfl rfl (by omega) (by rw [hz2]; omega) (by unfold maxLen; omega) hb1.size ?_; intro w3 hown3 hgrow3; have b3 : Below W0.heap.size W0 w3 := hb1.grown hgrow3 hb1.size (fun k h => by cases h); have hp3 : OwnI w3 W0.heap.size (.slice (some ⟨w1.heap.size, 0, none⟩) 0 N) [] := hown3; have ⟨zB3, cB3⟩ := B0.below b3; clear cB1)
      | (at_make; have _t := hp3; refine wpList_make_full _ rfl (.tmp 26) (.tmp 26) 60 rfl w3.heap.size 24 j0 (.slice none 0 0) 1 Try.underlying60 hj0 hy0 hy1 .i64 .i64 _ _ xss.length rfl rfl rfl rfl (by rw [hy2]; omega) (by unfold maxLen; omega) (Nat.le_refl _) ?_; intro w4 hown4 hgrow4; have b4 : Below W0.heap.size W0 w4 := b3.grown hgrow4 b3.size (fun k h => by cases h); have ⟨zB4, cB4⟩ := B0.below b4; clear cB3))
    have hp4 := hp3.kept hgrow4 (Classical.em _)
    have hr4 : RowsP w4 w3.heap.size (.slice (some ⟨w3.heap.size, 0, none⟩) xss.length xss.length) (List.replicate xss.length (.slice none 0 0)) (opR (enN xss) xss.length 0 0 0) := by
      rw [← opR_zero]
      exact RowsP.made (by simpa [Value.cells, toList_madeCells_one] using hown4)
    have hlt3 := (hp3.lt w1.heap.size rfl)
    have T0 : StM W0 w4 W0.heap.size w3.heap.size w1.heap.size w3.heap.size N xss.length 0 (P2 (tmF (enN xss) xss.length) 0) _ _ := ⟨hp4, hr4, rfl, opR_len _ _ _ _ _, hlt3.1, hlt3.2, hgrow4.size, b4⟩
    obtain ⟨gp, hgp⟩ : ∃ g, g = w1.heap.size := ⟨_, rfl⟩
    obtain ⟨go, hgo⟩ : ∃ g, g = w3.heap.size := ⟨_, rfl⟩
    rw [← hgp, ← hgo] at T0
    rw [← hgp, ← hgo]
    clear hown3 hgrow3 hown4 hgrow4 hp3 hp4 hr4 hlt3 hgp hgo b3 b4 hb1 zB1 zB3 _t
    go_wp2_with fail
    go_loopw [6, 31] (fun v6 i wr => ∃ (k : Nat) (vl : List Value), k ≤ xss.length ∧ i = .int .i64 k ∧ v6 = .slice (some ⟨gp, 0, none⟩) (oP (enN xss) xss.length k) N ∧ StM W0 wr W0.heap.size go gp go N xss.length (oP (enN xss) xss.length k) (P2 (tmF (enN xss) xss.length) (oP (enN xss) xss.length k)) vl (opR (enN xss) xss.length k 0 0)) (fun _ i _ => xss.length - (intOf i).toNat)
    case atStart => exact ⟨0, _, Nat.zero_le _, rfl, rfl, T0⟩
    case round =>
      clear T0 cB4 zB4
      obtain ⟨k, vl, hk, rfl, rfl, T⟩ := hrel
      have hk24 : oP (enN xss) xss.length k ≤ N := by rw [HN.out]; exact sN_up _ hk
      by_cases hlt : k < xss.length
      · have hx1 := hx0
        obtain ⟨b, off, a', cap', rfl, hbl0, hc0, hr0, hcp⟩ := hx1.row hlt
        have hbl : b < wr.heap.size := by have := T.b.size; omega
        have hc := (T.b.cell (p := ⟨b, off + k, none⟩) hbl0).trans hc0
        have hrow := mxB_len HM.out hlt
        have HR0 := Lib.hid hr0
        have HEN := Lib.hid (fun j (hj : j < xss.length) => en_at HM.out hlt hj)
        have HNX : Hid (oP (enN xss) xss.length k + rS (enN xss) k xss.length = cP (enN xss) xss.length k) := rfl
        rw [hrow] at hc
        clear hc0 hr0 hx1
        go_wp2_with fail
        go_loopw [6, 38] (fun v6 i wi => ∃ (j : Nat) (vl : List Value), j ≤ xss.length ∧ i = .int .i64 j ∧ v6 = .slice (some ⟨gp, 0, none⟩) (oP (enN xss) xss.length k + rS (enN xss) k j) N ∧ StM W0 wi W0.heap.size go gp go N xss.length (oP (enN xss) xss.length k + rS (enN xss) k j) (P2 (tmF (enN xss) xss.length) (oP (enN xss) xss.length k + rS (enN xss) k j)) vl (opR (enN xss) xss.length k j 0)) (fun _ i _ => xss.length - (intOf i).toNat)
        case atStart => exact ⟨0, vl, Nat.zero_le _, rfl, rfl, T⟩
        case round =>
          clear T hc hbl vl
          obtain ⟨j, vl, hj, rfl, rfl, T⟩ := hrel
          by_cases hjl : j < xss.length
          · obtain ⟨b', off', rfl, hbl', hc'⟩ := (HR0.out.below T.b).cell j (by rw [hrow]; exact hjl)
            have hce := HEN.out j hjl
            rw [show nth (rowL xss k) j = atM xss k j from rfl, hce] at hc'
            have hj1 : (j : Int) < (xss.length : Int) := by omega
            have HRS : Hid (rS (enN xss) k (j+1) = rS (enN xss) k j + enN xss k j) := rfl
            have HNJ := Lib.hid (opR_nextj (enN xss) xss.length k j)
            have HOP : Hid (∀ t, t < enN xss k j → tmF (enN xss) xss.length (oP (enN xss) xss.length k + rS (enN xss) k j + t) = cP (enN xss) xss.length j + cS (enN xss) j k + t) := fun t ht => tm_op hlt hjl ht
            have HCL : Hid (∀ t, t < enN xss k j → tmF (enN xss) xss.length (cP (enN xss) xss.length j + cS (enN xss) j k + t) = oP (enN xss) xss.length k + rS (enN xss) k j + t) := fun t ht => tm_cl hlt hjl ht
            have HLT : Hid (∀ t, t < enN xss k j → _) := fun t ht => tm_lt (d := xss.length) HU.out hlt hjl ht
            have HJN : Hid (oP (enN xss) xss.length (j+1) ≤ N) := by rw [Hid, HN.out]; exact sN_up _ (by omega)
            obtain ⟨E, hE⟩ : ∃ E, E = enN xss k j := ⟨_, rfl⟩
            rw [← hE] at hc' HRS HNJ HOP HLT HCL
            have HEE : Hid (E ≤ 12) := by
              have := mxB_num HM.out hlt hjl
              have := HEN.out j hjl
              rw [Hid, hE]; omega
            have hE12 := HEE.out
            clear hce hE
            go_wp2_with fail
            go_loopw [6, 44] (fun v6 i wi => ∃ (t : Nat) (vl : List Value), t ≤ E ∧ i = .int .i64 t ∧ v6 = .slice (some ⟨gp, 0, none⟩) (oP (enN xss) xss.length k + rS (enN xss) k j + t) N ∧ StM W0 wi W0.heap.size go gp go N xss.length (oP (enN xss) xss.length k + rS (enN xss) k j + t) (P2 (tmF (enN xss) xss.length) (oP (enN xss) xss.length k + rS (enN xss) k j + t)) vl (opR (enN xss) xss.length k j t)) (fun _ i _ => E - (intOf i).toNat)
            case atStart => exact ⟨0, vl, Nat.zero_le _, rfl, rfl, T⟩
            case round =>
              clear T hc' vl
              obtain ⟨t, vl, ht, rfl, rfl, T⟩ := hrel
              by_cases htl : t < E
              · have he := HOP.out t htl
                have he2 := HCL.out t htl
                have ⟨l1, l2, l3⟩ := HLT.out t htl
                have l4 := HJN.out
                obtain ⟨X, hX⟩ : ∃ X, X = oP (enN xss) xss.length k + rS (enN xss) k j + t := ⟨_, rfl⟩
                rw [← hX] at T he2 he l1 ⊢
                have HOS := Lib.hid (opR_set (i := k) (t := t) hjl he2)
                have HP2 : Hid (P2 (tmF (enN xss) xss.length) X ++ [0] = P2 (tmF (enN xss) xss.length) (X+1)) := P2_open HIN.out (by omega) (by rw [he]; omega)
                have HX1 : Hid (oP (enN xss) xss.length k + rS (enN xss) k j + (t+1) = X + 1) := by rw [Hid]; omega
                have hXN : X < N := by omega
                have hrl : ((rowL (opR (enN xss) xss.length k j t) j).length : Nat) ≤ 24 := by
                  have h6 : cS (enN xss) j (k+1) = cS (enN xss) j k + enN xss k j := rfl
                  have h7 : cS (enN xss) j (k+1) ≤ cS (enN xss) j xss.length := sN_up _ (by omega)
                  have h8 : oP (enN xss) xss.length (j+1) = oP (enN xss) xss.length j + (rS (enN xss) j xss.length + cS (enN xss) j xss.length) := rfl
                  have h9 : cP (enN xss) xss.length j = oP (enN xss) xss.length j + rS (enN xss) j xss.length := rfl
                  rw [opR_row _ _ _ _ hjl, fmap_len, ctF, if_neg (by omega), if_pos rfl]
                  omega
                clear hX he he2 l1 l2 l3 l4
                have hlr := T.lr
                obtain ⟨gq, eq, hq0, hq1, hq2, hq3⟩ := T.r.outer (k := j) (by rw [hlr]; exact hjl)
                simp only [Option.some.injEq, Addr.mk.injEq, and_true] at eq
                obtain rfl := eq
                have hro := T.r.o.row j (by rw [hlr]; exact hjl)
                obtain ⟨ra, rc, er⟩ := hro.form
                rw [er] at hq2
                have ER := Lib.hid er
                have HT := Lib.hid T
                have hbsz := T.bs
                have hpl := T.l
                rw [er] at hro
                clear er T
                go_wp2_with (first
                  | (at_builtin; have _g := hro; refine push_at rfl _ _ rfl (z := (X : Int)) rfl hro rfl (by omega) hbsz ?_; intro v' w3 o3 hg3 hat3; obtain ⟨va, vc, ev⟩ := o3.form; rw [List.length_append, List.length_singleton] at ev; subst ev; have ⟨⟨z, hz⟩, hf, T3⟩ := HT.out.grow hjl (by rw [ER.out]; exact hg3) o3 (by rw [ER.out]; exact hat3); rw [HOS.out] at T3; have HT3 := Lib.hid T3; clear hq2 hq3 hro T3 o3 hg3 hat3)
                  | (at_builtin; have _g := HT3; refine wpList_append_fits _ rfl _ _ 24 rfl W0.heap.size 3 i0 1 Try.underlying24 hi hz1 gp X N ((P2 (tmF (enN xss) xss.length) X).map (Value.int .i64)) rfl (by have h := HT3.out.o.alloc (.cells #[.int .i64 0] 3); unfold OwnI at h; rw [HT3.out.l] at h; exact h) ⟨w3.heap.size, 0, none⟩ 1 1 [.int .i64 0] rfl rfl (by have h := cell_one_new (w3.setCell ⟨go, j, none⟩ (.slice va ((rowL (opR (enN xss) xss.length k j t) j).length + 1) vc)) (.int .i64 0) 3; rw [World.size_setCell] at h; exact h) (by intro u hu; simp at hu; subst hu; rfl) (by omega) ?_; intro w5 ho5 hg5; have T5 := HT3.out.push (ps' := P2 (tmF (enN xss) xss.length) (X+1)) (grown_alloc_set hg5) (by rw [← HP2.out]; unfold OwnI; rw [List.length_append, HT3.out.l, List.map_append]; exact ho5) (P2_len _ _); have HT5 := Lib.hid T5; clear T5 ho5 hg5))
                go_roundw
                case rel => exact ⟨t + 1, _, by omega, by go_num, by rw [HX1.out], by rw [HX1.out]; exact HT5.out⟩
                case measure => simp [intOf]; omega
              · obtain rfl : t = E := by omega
                go_wp2_with fail
                go_roundw
                case rel => exact ⟨j + 1, vl, by omega, by go_num, by rw [HRS.out, ← Nat.add_assoc], by rw [HRS.out, ← HNJ.out, ← Nat.add_assoc]; exact T⟩
                case measure => simp [intOf]; omega
          · obtain rfl : j = xss.length := by omega
            rw [HNX.out] at T ⊢
            have HCK : Hid (cP (enN xss) xss.length k + cS (enN xss) k xss.length = oP (enN xss) xss.length (k+1)) := by
              have h8 : oP (enN xss) xss.length (k+1) = oP (enN xss) xss.length k + (rS (enN xss) k xss.length + cS (enN xss) k xss.length) := rfl
              have h9 := HNX.out
              rw [Hid]; omega
            have HKN : Hid (oP (enN xss) xss.length (k+1) ≤ N) := by rw [Hid, HN.out]; exact sN_up _ (by omega)
            have hkn := HKN.out
            rw [← HCK.out] at hkn
            have HBK : Hid (∀ s, s < cS (enN xss) k xss.length → tmF (enN xss) xss.length (cP (enN xss) xss.length k + s) < cP (enN xss) xss.length k) := fun s hs => tm_back HU.out hlt (by omega) (by rw [← HCK.out]; omega)
            have HNI := Lib.hid (opR_nexti (enN xss) xss.length k)
            have HFR := Lib.hid (opR_full (d := xss.length) HU.out hlt)
            have hlr := T.lr
            obtain ⟨gq, eq, hq0, hq1, hq2, hq3⟩ := T.r.outer (k := k) (by rw [hlr]; exact hlt)
            simp only [Option.some.injEq, Addr.mk.injEq, and_true] at eq
            obtain rfl := eq
            have hro := T.r.o.row k (by rw [hlr]; exact hlt)
            rw [HFR.out] at hro
            obtain ⟨ra, rc, er⟩ := hro.form
            rw [fmap_len] at er
            rw [er] at hq2
            have ER := Lib.hid er
            obtain ⟨Y, hY⟩ : ∃ Y, Y = cP (enN xss) xss.length k := ⟨_, rfl⟩
            obtain ⟨M, hM⟩ : ∃ M, M = cS (enN xss) k xss.length := ⟨_, rfl⟩
            rw [← hY] at HCK HBK T hkn HFR ⊢
            rw [← hM] at HCK HBK hkn hq2 ER HFR
            clear hY hM er hro
            go_wp2_with fail
            go_loopw [6, 67] (fun v6 i wi => ∃ s : Nat, s ≤ M ∧ i = .int .i64 s ∧ v6 = .slice (some ⟨gp, 0, none⟩) (Y + s) N ∧ StM W0 wi W0.heap.size go gp go N xss.length (Y + s) (P2 (tmF (enN xss) xss.length) (Y + s)) vl (opR (enN xss) xss.length k xss.length 0)) (fun _ i _ => M - (intOf i).toNat)
            case atStart => exact ⟨0, Nat.zero_le _, rfl, rfl, T⟩
            case round =>
              clear T hq2 hq3
              obtain ⟨s, hs, rfl, rfl, T⟩ := hrel
              by_cases hsl : s < M
              · have hro := T.r.o.row k (by rw [hlr]; exact hlt)
                rw [HFR.out, ER.out] at hro
                have hrl : (fmap (fun s => (tmF (enN xss) xss.length (Y + s) : Int)) M).length = M := fmap_len _ _
                obtain ⟨gr, rfl, hr0, hr1⟩ := hro.head (by omega)
                have ⟨cr, _⟩ := hro.at' hrl.symm (i := s) (by omega)
                rw [fmap_nth _ hsl] at cr
                obtain ⟨X, hX⟩ : ∃ X, X = tmF (enN xss) xss.length (Y + s) := ⟨_, rfl⟩
                have hXY := HBK.out s hsl
                rw [← hX] at cr hXY
                obtain ⟨L, hL⟩ : ∃ L, L = Y + s := ⟨_, rfl⟩
                have HL1 : Hid (Y + (s + 1) = L + 1) := by rw [Hid]; omega
                have HP2 : Hid ((P2 (tmF (enN xss) xss.length) L).set X (L : Int) ++ [(X : Int)] = P2 (tmF (enN xss) xss.length) (L+1)) := by
                  have := P2_close (F := tmF (enN xss) xss.length) (N := N) (L := L) HIN.out (by omega) (by rw [hL, ← hX]; omega)
                  rw [hL, ← hX, ← hL] at this
                  exact this
                rw [← hL] at T ⊢
                have hLN : L < N := by omega
                have hXL : X < L := by omega
                have ⟨cp, fp⟩ := T.o.at' T.l.symm (i := X) (by rw [T.l]; exact hXL)
                have HT1 := Lib.hid (T.putP X (L : Int))
                have HLN : Hid (((P2 (tmF (enN xss) xss.length) L).set X (L : Int)).length = L) := HT1.out.l
                have hrb := T.b.size
                clear hX hXY hL hro T
                go_wp2_with (at_builtin; refine wpList_append_fits _ rfl _ _ 24 rfl W0.heap.size 3 i0 1 Try.underlying24 hi hz1 gp L N (((P2 (tmF (enN xss) xss.length) L).set X (L : Int)).map (Value.int .i64)) rfl (by have h := HT1.out.o.alloc (.cells #[.int .i64 (X : Int)] 3); unfold OwnI at h; rw [HT1.out.l] at h; exact h) ⟨wr.heap.size, 0, none⟩ 1 1 [.int .i64 (X : Int)] rfl rfl (by have h := cell_one_new (wr.setCell ⟨gp, X, none⟩ (.int .i64 (L : Int))) (.int .i64 (X : Int)) 3; rw [World.size_setCell] at h; exact h) (by intro u hu; simp at hu; subst hu; rfl) (by omega) ?_; intro w5 ho5 hg5; have T5 := HT1.out.push (ps' := P2 (tmF (enN xss) xss.length) (L+1)) (grown_alloc_set hg5) (by rw [← HP2.out]; unfold OwnI; rw [List.length_append, HLN.out, List.map_append]; exact ho5) (P2_len _ _); have HT5 := Lib.hid T5; clear T5 ho5 hg5)
                go_roundw
                case rel => exact ⟨s + 1, by omega, by go_num, by rw [HL1.out], by rw [HL1.out]; exact HT5.out⟩
                case measure => simp [intOf]; omega
              · obtain rfl : s = M := by omega
                rw [HCK.out, HNI.out] at T
                rw [HCK.out]
                go_wp2_with fail
                go_roundw
                case rel => exact ⟨k + 1, vl, by omega, by go_num, rfl, T⟩
                case measure => simp [intOf]; omega
      · obtain rfl : k = xss.length := by omega
        rw [← HN.out] at T ⊢
        have HTT : Hid ((tmL xss).length = N) := by rw [Hid, HTL.out, P2_len]
        have ho := T.o
        have hbb := T.b
        clear T
        go_wp2_with fail
        refine bodyPost_ret (v := .tuple #[.slice (some ⟨gp, 0, none⟩) N N, .bool true]) (by simp [results, Try.results57, go_sem]) rfl ?_
        exact ⟨some ⟨gp, 0, none⟩, N, by rw [HTT.out], by rw [HTT.out, HTL.out]; exact ho.mono bw0.size, bw0.trans (hbb.mono bw0.size)⟩

theorem maTotal_any (a : Option Addr) (xs : List Int) (cap : Nat) (w : World) (hx : Rd w a xs) (hs : xs.length ≤ 1048576) (hv : ∀ j, j < xs.length → 0 ≤ nth xs j ∧ nth xs j ≤ 12) :
    Calls Try.prog 201 #[.slice a xs.length cap] w fun e w' => e = .returned (.int .i64 (totR xs)) ∧ w = w' := by
  have HV := Lib.hid hv
  have HB : Hid (∀ k, k ≤ xs.length → 0 ≤ totI xs k ∧ totI xs k ≤ 12 * (k : Int)) := by
    intro k
    induction k with
    | zero => intro _; simp [totI]
    | succ k ih =>
      intro hk
      have h1 := ih (by omega)
      have h2 := hv k (by omega)
      rw [totI]; omega
  clear hv
  go_enter Try.func201, Try.ntmps201
  go_wp2_with fail
  go_loop [3, 8] (fun m i => ∃ k : Nat, k ≤ xs.length ∧ i = .int .i64 k ∧ m = .int .i64 (totI xs k)) (fun _ i => xs.length - (intOf i).toNat)
  case atStart => exact ⟨0, Nat.zero_le _, rfl, rfl⟩
  case round =>
    obtain ⟨k, hk, rfl, rfl⟩ := hrel
    have ⟨h1, h2⟩ := HB.out k hk
    by_cases hlt : k < xs.length
    · obtain ⟨b, off, rfl, hbl, hc⟩ := hx.cell k hlt
      have ⟨h3, h4⟩ := HV.out k hlt
      have HN : Hid (totI xs (k+1) = totI xs k + nth xs k) := rfl
      go_wp2_with fail
      go_round
      case rel => exact ⟨k + 1, by omega, by go_num, val_int (by rw [HN.out])⟩
      case measure => simp [intOf]; omega
    · obtain rfl : k = xs.length := by omega
      go_wp2_with fail
      go_ret
      exact ⟨rfl, rfl⟩

theorem maColumn_any (a : Option Addr) (xss : List (List Int)) (cap : Nat) (j : Nat) (w : World) (hx : RdS w a xss) (h12 : xss.length ≤ 12) (hj : ∀ k, k < xss.length → j < (rowL xss k).length) :
    Calls Try.prog 177 #[.agg #[.slice a xss.length cap], .int .i64 (j : Int)] w fun e w' => ∃ a' cap', e = .returned (.slice a' xss.length cap') ∧ OwnI w' w.heap.size (.slice a' xss.length cap') (colL xss j) ∧ Below w.heap.size w w' := by
  have hlen := hx.len
  have HJ := Lib.hid hj
  clear hj
  go_enter Try.func177, Try.ntmps177
  go_wp2_with fail
  go_loopw [5, 11] (fun v i wr => ∃ k : Nat, k ≤ xss.length ∧ i = .int .i64 k ∧ OwnI wr w.heap.size v (fmap (fun i => atM xss i j) k) ∧ Below w.heap.size w wr) (fun _ i _ => xss.length - (intOf i).toNat)
  case atStart => exact ⟨0, Nat.zero_le _, rfl, OwnI.nil _ _, (by repeat (first | exact Below.refl _ _ | assumption | refine Below.alloc ?_ (by first | exact Nat.le_refl _ | (simp only [World.size_alloc, World.size_setCell, World.size_drew]; omega) | omega) _ | refine Below.setCell ?_ (by first | exact Nat.le_refl _ | (simp only [World.size_alloc, World.size_setCell, World.size_drew]; omega) | omega) _ | refine Below.drew ?_))⟩
  case round =>
    obtain ⟨k, hk, rfl, hown, hb⟩ := hrel
    have hbs := hb.size
    by_cases hlt : k < xss.length
    · obtain ⟨b, off, a', cap', rfl, hbl, hc, hr⟩ := (hx.below hb).row k hlt
      have h5 := HJ.out k hlt
      have k1 : (k : Int) < (xss.length : Int) := by omega
      obtain ⟨b2, off2, rfl, hbl2, hc2⟩ := hr.cell j h5
      have hrl := hr.len
      have j1 : (j : Int) < ((rowL xss k).length : Int) := by omega
      have HN : Hid (fmap (fun i => atM xss i j) (k+1) = fmap (fun i => atM xss i j) k ++ [nth (rowL xss k) j]) := fmap_succ _ _
      obtain ⟨ys, hys⟩ : ∃ ys, ys = fmap (fun i => atM xss i j) k := ⟨_, rfl⟩
      have hyl : ys.length = k := by rw [hys, fmap_len]
      rw [← hys] at hown HN
      clear hys
      go_wp2_with (at_builtin; refine push_at rfl _ _ rfl (z := nth (rowL xss k) j) rfl hown rfl (by omega) (by omega) ?_)
      intro v3 w3 o3 hg _
      have hU := hown.lt
      have b3 := hb.trans (below_of_grown hg (fun c e => (hU c e).1) hbs)
      clear hg hown
      go_wp2_with fail
      go_roundw
      case rel => exact ⟨k + 1, by omega, by go_num, by rw [HN.out]; exact o3, b3⟩
      case measure => simp [intOf]; omega
    · obtain rfl : k = xss.length := by omega
      have hfm := hown.form
      rw [fmap_len] at hfm
      obtain ⟨a', cap', rfl⟩ := hfm
      go_wp2_with fail
      go_ret
      exact ⟨a', cap', rfl, hown, hb⟩

def opL (xss : List (List Int)) : List Int := fmap (fun i => (oP (enN xss) xss.length i : Int)) xss.length
def cpL (xss : List (List Int)) : List Int := fmap (fun i => (cP (enN xss) xss.length i : Int)) xss.length
theorem oP_le24 {xss : List (List Int)} (h : mxB xss = true) {k : Nat} (hk : k ≤ xss.length) : oP (enN xss) xss.length k ≤ 24 :=
  Nat.le_trans (sN_up _ hk) (en_two h).2
set_option maxRecDepth 100000 in
theorem stPlaces_any (a : Option Addr) (xss : List (List Int)) (cap : Nat) (w : World) (hx : RdC w a xss) (hm : mxB xss = true) :
    Calls Try.prog 179 #[.agg #[.slice a xss.length cap]] w fun e w' => ∃ a1 c1 a2 c2, e = .returned (.tuple #[.slice a1 xss.length c1, .slice a2 xss.length c2]) ∧ OwnI w' w.heap.size (.slice a1 xss.length c1) (opL xss) ∧ OwnI w' w.heap.size (.slice a2 xss.length c2) (cpL xss) ∧ SepV (.slice a1 xss.length c1) (.slice a2 xss.length c2) ∧ Below w.heap.size w w' := by
  have h12 := mxB_small hm
  have HM := Lib.hid hm
  obtain ⟨W0, hW0⟩ : ∃ x : World, x = w.alloc (.cells #[.slice a xss.length cap] 62) := ⟨_, rfl⟩
  have bw0 : Below w.heap.size w W0 := by rw [hW0]; exact (Below.refl _ _).alloc (Nat.le_refl _) _
  have B0 : Box1 W0 w.heap.size (.slice a xss.length cap) := by rw [hW0]; exact Box1.new w _ _
  have hx0 := hx.below bw0
  obtain ⟨g0, hg0⟩ : ∃ g, g = w.heap.size := ⟨_, rfl⟩
  clear hm hx
  go_enter Try.func179, Try.ntmps179
  go_wp2_with fail
  rw [← hW0]
  rw [← hg0] at B0 ⊢
  have ⟨zB0, cB0⟩ := B0
  clear hg0 hW0
  go_wp2_with fail
  go_loopw [4, 5, 6, 12] (fun v4 v5 s i wr => ∃ k : Nat, k ≤ xss.length ∧ i = .int .i64 k ∧ s = .int .i64 (oP (enN xss) xss.length k : Nat) ∧ OwnI wr W0.heap.size v4 (fmap (fun i => (oP (enN xss) xss.length i : Int)) k) ∧ OwnI wr W0.heap.size v5 (fmap (fun i => (cP (enN xss) xss.length i : Int)) k) ∧ SepV v4 v5 ∧ Below W0.heap.size W0 wr) (fun _ _ _ i _ => xss.length - (intOf i).toNat)
  case atStart => exact ⟨0, Nat.zero_le _, rfl, rfl, OwnI.nil _ _, OwnI.nil _ _, (fun c e => by cases e), Below.refl _ _⟩
  case round =>
    clear cB0
    obtain ⟨k, hk, rfl, rfl, o4, o5, hs, hb⟩ := hrel
    have hbs := hb.size
    have hk24 := oP_le24 HM.out hk
    by_cases hlt : k < xss.length
    · have hxr := hx0.below hb
      have ⟨zB, cB⟩ := B0.below hb
      have HO : Hid (oP (enN xss) xss.length (k+1) = oP (enN xss) xss.length k + (rS (enN xss) k xss.length + cS (enN xss) k xss.length)) := rfl
      have hk25 := oP_le24 HM.out (k := k+1) (by omega)
      rw [HO.out] at hk25
      have HC : Hid (cP (enN xss) xss.length k = oP (enN xss) xss.length k + rS (enN xss) k xss.length) := rfl
      have F4 : Hid (fmap (fun i => (oP (enN xss) xss.length i : Int)) (k+1) = fmap (fun i => (oP (enN xss) xss.length i : Int)) k ++ [(oP (enN xss) xss.length k : Int)]) := fmap_succ _ _
      have F5 : Hid (fmap (fun i => (cP (enN xss) xss.length i : Int)) (k+1) = fmap (fun i => (cP (enN xss) xss.length i : Int)) k ++ [(cP (enN xss) xss.length k : Int)]) := fmap_succ _ _
      have y4 : (fmap (fun i => (oP (enN xss) xss.length i : Int)) k).length = k := fmap_len _ _
      have y5 : (fmap (fun i => (cP (enN xss) xss.length i : Int)) k).length = k := fmap_len _ _
      obtain ⟨ys4, e4⟩ : ∃ y, y = fmap (fun i => (oP (enN xss) xss.length i : Int)) k := ⟨_, rfl⟩
      obtain ⟨ys5, e5⟩ : ∃ y, y = fmap (fun i => (cP (enN xss) xss.length i : Int)) k := ⟨_, rfl⟩
      rw [← e4] at F4 y4 o4
      rw [← e5] at F5 y5 o5
      have hx1 := hx0
      obtain ⟨b, off, a', cap', rfl, hbl0, hc0, hr0, hcp⟩ := hx1.row hlt
      have hbl : b < wr.heap.size := by omega
      have hc := (hb.cell (p := ⟨b, off + k, none⟩) hbl0).trans hc0
      have hrow := mxB_len HM.out hlt
      have HC1 := Lib.hid (fun W (hr : Rd W a' (rowL xss k)) => maTotal_any a' (rowL xss k) cap' W hr (by omega) (fun j hj => mxB_num HM.out hlt (by omega)))
      rw [en_totR HM.out hlt] at HC1
      have HC2 := Lib.hid (fun W (hr : RdC W (some ⟨b, off, none⟩) xss) => maColumn_any (some ⟨b, off, none⟩) xss cap k W hr.rd h12 (fun j hj => by rw [mxB_len HM.out hj]; exact hlt))
      have HC3 := Lib.hid (fun W a' cap' (hr : Rd W a' (colL xss k)) => maTotal_any a' (colL xss k) cap' W hr (by rw [colL_len]; omega) (fun j hj => by rw [colL_len] at hj; rw [colL_nth k hj]; exact mxB_num HM.out hj hlt))
      rw [en_totC HM.out hlt, colL_len] at HC3
      obtain ⟨c, hcc⟩ : ∃ c, c = cP (enN xss) xss.length k := ⟨_, rfl⟩
      obtain ⟨o, ho⟩ : ∃ o, o = oP (enN xss) xss.length k := ⟨_, rfl⟩
      obtain ⟨r, hr'⟩ : ∃ r, r = rS (enN xss) k xss.length := ⟨_, rfl⟩
      obtain ⟨s, hs'⟩ : ∃ s, s = cS (enN xss) k xss.length := ⟨_, rfl⟩
      rw [← ho] at HO HC F4 hk24 hk25 ⊢
      rw [← hr'] at HO HC HC1 hk25
      rw [← hs'] at HO HC3 hk25
      rw [← hcc] at HC F5
      have F5' : Hid (fmap (fun i => (cP (enN xss) xss.length i : Int)) (k+1) = ys5 ++ [(o : Int) + (r : Int)]) := by rw [Hid, F5.out, HC.out, Int.natCast_add]
      have HO' : Hid (((oP (enN xss) xss.length (k+1) : Nat) : Int) = (o : Int) + (r : Int) + (s : Int)) := by rw [Hid, HO.out]; omega
      have HRC := Lib.hid hx0
      have HR0 := Lib.hid hr0
      clear e4 e5 hcc ho hr' hs' hrow hc0 hr0 hx1
      go_wp2_with (at_builtin; have _t := hs; refine push_at rfl _ _ rfl (z := (o : Int)) rfl o4 rfl (by omega) hbs ?_; intro v4' w3 p4 hg4 hat4; have o5' := o5.kept hg4 (own_ne (fun c e e2 => hs c e2 e)); have b3 := hb.trans (below_of_grown hg4 (fun c e => (o4.lt c e).1) hbs); have s3 := SepV.grow (m := wr.heap.size + 1) hs o5 (by omega) hat4; clear hs o4 o5)
      refine (HC1.out _ (HR0.out.below b3)).mono ?_
      rintro e w4 ⟨rfl, rfl⟩
      clear cB zB hc
      have ⟨zB, cB⟩ := B0.below b3
      go_wp2_with (at_builtin; have _t := s3; refine push_at rfl _ _ rfl (z := (o : Int) + (r : Int)) rfl o5' rfl (by omega) b3.size ?_; intro v5' w5 p5 hg5 hat5; have p4' := p4.kept hg5 (own_ne (fun c e e2 => s3 c e e2)); have b5 := b3.trans (below_of_grown hg5 (fun c e => (o5'.lt c e).1) b3.size); have s5 := SepV.symm (SepV.grow (m := w3.heap.size + 1) (SepV.symm s3) p4 (by omega) hat5); clear s3 p4 o5'; clear cB zB; have ⟨zB, cB⟩ := B0.below b5)
      refine (HC2.out _ (HRC.out.below b5)).mono ?_
      rintro e w6 ⟨a6, c6, rfl, o6, hb6⟩
      have b6 := b5.trans (hb6.mono b5.size)
      have hr6 := o6.rd
      have p4'' := p4'.below hb6 (Nat.le_refl _)
      have p5' := p5.below hb6 (Nat.le_refl _)
      clear hb6 o6 p4' p5
      go_wp2_with fail
      refine (HC3.out _ a6 c6 hr6).mono ?_
      rintro e w7 ⟨rfl, rfl⟩
      clear hr6
      go_wp2_with fail
      go_roundw
      case rel => exact ⟨k + 1, by omega, by go_num, val_int HO'.out.symm, by rw [F4.out]; exact p4'', by rw [F5'.out]; exact p5', s5, b6⟩
      case measure => simp [intOf]; omega
    · obtain rfl : k = xss.length := by omega
      have h4 := o4.form
      have h5 := o5.form
      rw [fmap_len] at h4 h5
      obtain ⟨a1, c1, rfl⟩ := h4
      obtain ⟨a2, c2, rfl⟩ := h5
      go_wp2_with fail
      refine bodyPost_ret (v := .tuple #[.slice a1 xss.length c1, .slice a2 xss.length c2]) (by simp [results, Try.results179, go_sem]) rfl ?_
      exact ⟨a1, c1, a2, c2, rfl, o4.mono bw0.size, o5.mono bw0.size, hs, bw0.trans (hb.mono bw0.size)⟩

set_option maxRecDepth 100000 in
theorem maSum_any (a : Option Addr) (xss : List (List Int)) (cap : Nat) (w : World) (hx : RdS w a xss) (h12 : xss.length ≤ 12) (hl : ∀ k, k < xss.length → (rowL xss k).length = xss.length) (hv : ∀ k, k < xss.length → ∀ j, j < (rowL xss k).length → 0 ≤ nth (rowL xss k) j ∧ nth (rowL xss k) j ≤ 12) :
    Calls Try.prog 178 #[.agg #[.slice a xss.length cap]] w fun e w' => e = .returned (.int .i64 (matS xss xss.length)) ∧ Below w.heap.size w w' := by
  have hlen := hx.len
  have HV := Lib.hid hv
  have HL := Lib.hid hl
  have HR : Hid (∀ k, k < xss.length → 0 ≤ totR (rowL xss k) ∧ totR (rowL xss k) ≤ 144) := by
    intro k hk
    have h3 : ∀ j, j ≤ (rowL xss k).length → 0 ≤ totI (rowL xss k) j ∧ totI (rowL xss k) j ≤ 12 * (j : Int) := by
      intro j
      induction j with
      | zero => intro _; simp [totI]
      | succ j ih =>
        intro hj
        have h1 := ih (by omega)
        have h2 := hv k hk j (by omega)
        rw [totI]; omega
    have h4 := h3 _ (Nat.le_refl _)
    have h5 := hl k hk
    rw [totR]; omega
  have HB : Hid (∀ k, k ≤ xss.length → 0 ≤ matS xss k ∧ matS xss k ≤ 144 * (k : Int)) := by
    intro k
    induction k with
    | zero => intro _; simp [matS]
    | succ k ih =>
      intro hk
      have h1 := ih (by omega)
      have h2 := HR.out k (by omega)
      rw [matS]; omega
  clear hv hl
  go_enter Try.func178, Try.ntmps178
  go_wp2_with fail
  go_loop [3, 9] (fun m i => ∃ k : Nat, k ≤ xss.length ∧ i = .int .i64 k ∧ m = .int .i64 (matS xss k)) (fun _ i => xss.length - (intOf i).toNat)
  case atStart => exact ⟨0, Nat.zero_le _, rfl, rfl⟩
  case round =>
    obtain ⟨k, hk, rfl, rfl⟩ := hrel
    have ⟨h1, h2⟩ := HB.out k hk
    by_cases hlt : k < xss.length
    · obtain ⟨b, off, a', cap', rfl, hbl, hc, hr⟩ := (hx.below (show Below w.heap.size w (w.alloc (.cells #[.slice a xss.length cap] 62)) from (by repeat (first | exact Below.refl _ _ | assumption | refine Below.alloc ?_ (by first | exact Nat.le_refl _ | (simp only [World.size_alloc, World.size_setCell, World.size_drew]; omega) | omega) _ | refine Below.setCell ?_ (by first | exact Nat.le_refl _ | (simp only [World.size_alloc, World.size_setCell, World.size_drew]; omega) | omega) _ | refine Below.drew ?_)))).row k hlt
      have ⟨h3, h4⟩ := HR.out k hlt
      have h5 := HL.out k hlt
      have k1 : (k : Int) < (xss.length : Int) := by omega
      have HC := Lib.hid (fun W (hr : Rd W a' (rowL xss k)) => maTotal_any a' (rowL xss k) cap' W hr (by omega) (HV.out k hlt))
      have HN : Hid (matS xss (k+1) = matS xss k + totR (rowL xss k)) := rfl
      obtain ⟨T, hT⟩ : ∃ T, T = totR (rowL xss k) := ⟨_, rfl⟩
      obtain ⟨S, hS⟩ : ∃ S, S = matS xss k := ⟨_, rfl⟩
      rw [← hT] at h3 h4 HN HC
      rw [← hS] at h1 h2 HN ⊢
      clear hT hS h5
      go_wp2_with fail
      refine (HC.out _ hr).mono ?_
      rintro e w' ⟨rfl, rfl⟩
      clear hr
      go_wp2_with fail
      go_round
      case rel => exact ⟨k + 1, by omega, by go_num, val_int (by rw [HN.out])⟩
      case measure => simp [intOf]; omega
    · obtain rfl : k = xss.length := by omega
      go_wp2_with fail
      go_ret
      exact ⟨rfl, (by repeat (first | exact Below.refl _ _ | assumption | refine Below.alloc ?_ (by first | exact Nat.le_refl _ | (simp only [World.size_alloc, World.size_setCell, World.size_drew]; omega) | omega) _ | refine Below.setCell ?_ (by first | exact Nat.le_refl _ | (simp only [World.size_alloc, World.size_setCell, World.size_drew]; omega) | omega) _ | refine Below.drew ?_))⟩

set_option maxRecDepth 100000 in
set_option maxHeartbeats 1000000 in
theorem stOf_any (a : Option Addr) (xss : List (List Int)) (cap : Nat) (w : World) (hx : RdC w a xss) (hm : mxB xss = true) :
    Calls Try.prog 122 #[.agg #[.slice a xss.length cap]] w fun e w' => ∃ a1 c1, e = .returned (.slice a1 (tmL xss).length c1) ∧ OwnI w' w.heap.size (.slice a1 (tmL xss).length c1) (tmL xss) ∧ Below w.heap.size w w' := by
  obtain ⟨i0, hi, hz0, hz1, hz2⟩ := info_parts infoInt
  have h12 := mxB_small hm
  have ⟨hN2, hN24⟩ := en_two hm
  have HTL : Hid (tmL xss = P1 (tmF (enN xss) xss.length) (oP (enN xss) xss.length xss.length) (oP (enN xss) xss.length xss.length)) := by rw [Hid, tmL, if_pos hm, P1_end]
  have HM := Lib.hid hm
  have HU := Lib.hid (en_up xss)
  have HIN := Lib.hid (tm_Inv (d := xss.length) (en_up xss))
  obtain ⟨W0, hW0⟩ : ∃ x : World, x = w.alloc (.cells #[.slice a xss.length cap] 62) := ⟨_, rfl⟩
  have bw0 : Below w.heap.size w W0 := by rw [hW0]; exact (Below.refl _ _).alloc (Nat.le_refl _) _
  have B0 : Box1 W0 w.heap.size (.slice a xss.length cap) := by rw [hW0]; exact Box1.new w _ _
  have hx0 := hx.below bw0
  obtain ⟨g0, hg0⟩ : ∃ g, g = w.heap.size := ⟨_, rfl⟩
  clear hm hx
  go_enter Try.func122, Try.ntmps122
  go_wp2_with fail
  rw [← hW0]
  rw [← hg0] at B0 ⊢
  have ⟨zB0, cB0⟩ := B0
  clear hg0 hW0
  go_wp2_with fail
  refine (stPlaces_any _ _ _ _ hx0 HM.out).mono ?_
  rintro e w1 ⟨a1, c1, a2, c2, rfl, o1, o2, hs, hb1⟩
  have hx1 := hx0.below hb1
  have ⟨zB1, cB1⟩ := B0.below hb1
  clear cB0
  go_wp2_with fail
  refine (maSum_any _ _ _ _ hx1.rd h12 (fun k hk => mxB_len HM.out hk) (fun k hk j hj => mxB_num HM.out hk (by rw [mxB_len HM.out hk] at hj; exact hj))).mono ?_
  rintro e w2 ⟨rfl, hb2⟩
  have b2 : Below W0.heap.size W0 w2 := hb1.trans (hb2.mono hb1.size)
  have p1 := o1.below hb2 (Nat.le_refl _)
  have p2 := o2.below hb2 (Nat.le_refl _)
  obtain ⟨N, hN⟩ : ∃ N, N = oP (enN xss) xss.length xss.length := ⟨_, rfl⟩
  obtain ⟨S, hS⟩ : ∃ S, S = matS xss xss.length := ⟨_, rfl⟩
  rw [← hN, ← hS] at hN2
  rw [← hN] at hN24
  rw [← hS]
  have hS0 : 0 ≤ S ∧ S ≤ 12 := by omega
  clear hS hb2 o1 o2 hx1 cB1
  have ⟨zB2, cB2⟩ := B0.below b2
  go_wp2_with (at_make; refine wpList_make_full _ rfl (.tmp 17) (.tmp 17) 24 rfl W0.heap.size 3 i0 (.int .i64 0) 1 Try.underlying24 hi hz0 hz1 .i64 .i64 _ _ N rfl rfl (by omega) (by omega) (by rw [hz2]; omega) (by unfold maxLen; omega) b2.size ?_; intro w3 hown hgrow; have b3 : Below W0.heap.size W0 w3 := b2.grown hgrow b2.size (fun k h => by cases h); have ⟨zB3, cB3⟩ := B0.below b3; clear cB2)
  have hown0 := made_row (fun q => (0 : Int)) hown
  have e0 : rowF (fun q => (0 : Int)) N 0 = P1 (tmF (enN xss) xss.length) N 0 := by
    rw [P1_zero]
    apply List.ext_getElem (by rw [rowF_len _ (Nat.zero_le _), fmap_len])
    intro j h1 h2
    simp [rowF, fmap]
  rw [e0] at hown0
  have q1 := p1.kept hgrow (Classical.em _)
  have q2 := p2.kept hgrow (Classical.em _)
  rw [opL, opT_zero] at q1
  rw [cpL, clT_zero] at q2
  have hU1 := p1.lt
  have hU2 := p2.lt
  obtain ⟨g, hg⟩ : ∃ g, g = w2.heap.size := ⟨_, rfl⟩
  have hgz : W0.heap.size ≤ g := by have := b2.size; omega
  rw [← hg] at hown0 hU1 hU2 ⊢
  rw [hg] at hown0
  have hown1 : OwnI w3 W0.heap.size (.slice (some ⟨g, 0, none⟩) N N) (P1 (tmF (enN xss) xss.length) N 0) := by rw [← hg] at hown0; exact hown0
  clear hown hgrow e0 hown0 p1 p2 hg hb1 b2 zB1 zB2
  go_wp2_with fail
  have HSt : ∀ i, i ≤ xss.length → True := fun _ _ => trivial
  go_loopw [22] (fun i wr => ∃ k : Nat, k ≤ xss.length ∧ i = .int .i64 k ∧ OwnI wr W0.heap.size (.slice (some ⟨g, 0, none⟩) N N) (P1 (tmF (enN xss) xss.length) N (oP (enN xss) xss.length k)) ∧ OwnI wr W0.heap.size (.slice a1 xss.length c1) (opT (enN xss) xss.length k (oP (enN xss) xss.length k)) ∧ OwnI wr W0.heap.size (.slice a2 xss.length c2) (clT (enN xss) xss.length k 0 0) ∧ Below W0.heap.size W0 wr) (fun i _ => xss.length - (intOf i).toNat)
  case atStart => exact ⟨0, Nat.zero_le _, rfl, hown1, q1, q2, b3⟩
  case round =>
    clear hown1 q1 q2 b3 cB3 zB3
    obtain ⟨k, hk, rfl, o, o1, o2, hb⟩ := hrel
    have hbs := hb.size
    by_cases hlt : k < xss.length
    · obtain ⟨g1, ea1, hg10, hg11⟩ := o1.head (by rw [opT_len]; omega)
      obtain ⟨g2, ea2, hg20, hg21⟩ := o2.head (by rw [clT_len]; omega)
      subst ea1
      subst ea2
      have d1 := (hU1 g1 rfl).2
      have d2 := (hU2 g2 rfl).2
      have d3 : g1 ≠ g2 := fun h => hs g1 rfl (by rw [h]; rfl)
      have T0 : St3 W0 wr W0.heap.size g g1 g2 N xss.length N c1 c2 _ _ _ := ⟨o, o1, o2, P1_len _ _ _, opT_len _ _ _ _, clT_len _ _ _ _ _, by omega, by omega, d3, hgz, hg10, hg20, hb⟩
      have hx1 := hx0
      obtain ⟨b, off, a', cap', rfl, hbl0, hc0, hr0, hcp⟩ := hx1.row hlt
      have hbl : b < wr.heap.size := by omega
      have hc := (hb.cell (p := ⟨b, off + k, none⟩) hbl0).trans hc0
      have hrow := mxB_len HM.out hlt
      have HR0 := Lib.hid hr0
      have HEN := Lib.hid (fun j (hj : j < xss.length) => en_at HM.out hlt hj)
      have HNX : Hid (oP (enN xss) xss.length k + rS (enN xss) k xss.length = cP (enN xss) xss.length k) := rfl
      rw [hrow] at hc
      clear hc0 hr0 hx1 o o1 o2
      go_wp2_with fail
      go_loopw [29] (fun i wi => ∃ j : Nat, j ≤ xss.length ∧ i = .int .i64 j ∧ St3 W0 wi W0.heap.size g g1 g2 N xss.length N c1 c2 (P1 (tmF (enN xss) xss.length) N (oP (enN xss) xss.length k + rS (enN xss) k j)) (opT (enN xss) xss.length k (oP (enN xss) xss.length k + rS (enN xss) k j)) (clT (enN xss) xss.length k j 0)) (fun i _ => xss.length - (intOf i).toNat)
      case atStart => exact ⟨0, Nat.zero_le _, rfl, T0⟩
      case round =>
        clear T0 hc hb hbs hbl
        obtain ⟨j, hj, rfl, T⟩ := hrel
        by_cases hjl : j < xss.length
        · obtain ⟨b', off', rfl, hbl', hc'⟩ := (HR0.out.below T.b).cell j (by rw [hrow]; exact hjl)
          have hce := HEN.out j hjl
          rw [show nth (rowL xss k) j = atM xss k j from rfl, hce] at hc'
          have hj1 : (j : Int) < (xss.length : Int) := by omega
          have HRS : Hid (rS (enN xss) k (j+1) = rS (enN xss) k j + enN xss k j) := rfl
          have HRD : Hid (rS (enN xss) k (j+1) ≤ rS (enN xss) k xss.length) := sN_up _ (by omega)
          have HCT := Lib.hid (clT_nextj (enN xss) xss.length k j)
          have HOP : Hid (∀ t, t < enN xss k j → tmF (enN xss) xss.length (oP (enN xss) xss.length k + rS (enN xss) k j + t) = cP (enN xss) xss.length j + cS (enN xss) j k + t) := fun t ht => tm_op hlt hjl ht
          have HLT : Hid (∀ t, t < enN xss k j → _) := fun t ht => tm_lt (d := xss.length) HU.out hlt hjl ht
          have HJN : Hid (oP (enN xss) xss.length (j+1) ≤ N) := by rw [Hid, hN]; exact sN_up _ (by omega)
          obtain ⟨E, hE⟩ : ∃ E, E = enN xss k j := ⟨_, rfl⟩
          rw [← hE] at hc' HRS HCT HOP HLT
          have HEE : Hid (E ≤ 12) := by
            have := mxB_num HM.out hlt hjl
            have := HEN.out j hjl
            rw [Hid, hE]; omega
          have hE12 := HEE.out
          clear hce hE
          go_wp2_with fail
          go_loopw [9] (fun i wi => ∃ t : Nat, t ≤ E ∧ i = .int .i64 ((E : Int) - (t : Int)) ∧ St3 W0 wi W0.heap.size g g1 g2 N xss.length N c1 c2 (P1 (tmF (enN xss) xss.length) N (oP (enN xss) xss.length k + rS (enN xss) k j + t)) (opT (enN xss) xss.length k (oP (enN xss) xss.length k + rS (enN xss) k j + t)) (clT (enN xss) xss.length k j t)) (fun i _ => (intOf i).toNat)
          case atStart => exact ⟨0, Nat.zero_le _, by simp, T⟩
          case round =>
            clear T hc'
            obtain ⟨t, ht, rfl, T⟩ := hrel
            by_cases htl : t < E
            · have he := HOP.out t htl
              have ⟨l1, l2, l3⟩ := HLT.out t htl
              have l4 := HJN.out
              obtain ⟨X, hX⟩ : ∃ X, X = oP (enN xss) xss.length k + rS (enN xss) k j + t := ⟨_, rfl⟩
              obtain ⟨C, hC⟩ : ∃ C, C = cP (enN xss) xss.length j + cS (enN xss) j k + t := ⟨_, rfl⟩
              have hX1 : oP (enN xss) xss.length k + rS (enN xss) k j + (t+1) = X + 1 := by omega
              rw [← hX, ← hC] at he l1
              rw [← hC] at l2
              rw [← hX] at T
              have HX1 := Lib.hid hX1
              have HPS : Hid (((P1 (tmF (enN xss) xss.length) N X).set X (C : Int)).set C (X : Int) = P1 (tmF (enN xss) xss.length) N (X+1)) := by
                have := P1_step (F := tmF (enN xss) xss.length) (N := N) (o := X) (by rw [hN]; exact HIN.out) (by omega)
                rw [he] at this
                exact this
              have HOS : Hid ((opT (enN xss) xss.length k X).set k ((X : Int) + 1) = opT (enN xss) xss.length k (X+1)) := opT_set _ X (X+1) hlt
              have HCS : Hid ((clT (enN xss) xss.length k j t).set j ((C : Int) + 1) = clT (enN xss) xss.length k j (t+1)) := clT_set _ t (C+1) hjl (by omega)
              have v1 := opT_at (enN xss) X hlt
              have v2 : nth (clT (enN xss) xss.length k j t) j = (C : Int) := by rw [hC]; exact clT_at (enN xss) t hjl
              have hXN : X < N := by omega
              have hCN : C < N := by omega
              have HTE : Hid ((intOf (Value.int .i64 ((E : Int) - (t + 1 : Nat)))).toNat < E - t) := by rw [Hid]; simp [intOf]; omega
              clear hX hC hX1 he l1 l2 l3 l4
              obtain ⟨P, hP⟩ : ∃ P, P = P1 (tmF (enN xss) xss.length) N X := ⟨_, rfl⟩
              obtain ⟨O, hO⟩ : ∃ P, P = opT (enN xss) xss.length k X := ⟨_, rfl⟩
              obtain ⟨Q, hQ⟩ : ∃ P, P = clT (enN xss) xss.length k j t := ⟨_, rfl⟩
              rw [← hP, ← hO, ← hQ] at T
              rw [← hP] at HPS
              rw [← hO] at HOS v1
              rw [← hQ] at HCS v2
              clear hP hO hQ
              have V1 := Lib.hid v1
              have V2 := Lib.hid v2
              have ⟨s1, f1⟩ := T.at1 hlt
              have ⟨s2, f2⟩ := T.at2 hjl
              have ⟨s3, f3⟩ := T.atP hXN
              rw [V1.out] at s1
              rw [V2.out] at s2
              have hne1 := T.n1
              have hne2 := T.n2
              have HT := Lib.hid T
              have XN : (X : Int) < (N : Int) := by omega
              have CN : (C : Int) < (N : Int) := by omega
              have kl : (k : Int) < (xss.length : Int) := by omega
              have tE : (t : Int) < (E : Int) := by omega
              clear T v1 v2
              go_wp2_with fail
              go_region
              all_goals
                have T1 := HT.out.putP X (C : Int)
                first
                  | (obtain ⟨W1, e1⟩ : ∃ x : World, x = (wr.setCell ⟨g, X, none⟩ (.int .i64 (C : Int))).drew := ⟨_, rfl⟩
                     replace T1 := T1.drew
                     rw [← e1] at T1 ⊢)
                  | (obtain ⟨W1, e1⟩ : ∃ x : World, x = wr.setCell ⟨g, X, none⟩ (.int .i64 (C : Int)) := ⟨_, rfl⟩
                     rw [← e1] at T1 ⊢)
                clear e1 s1 f1 s2 f2 s3 f3
                have ⟨s1, f1⟩ := T1.at1 hlt
                have ⟨s2, f2⟩ := T1.at2 hjl
                have ⟨s3, f3⟩ := T1.atP hCN
                rw [V1.out] at s1
                rw [V2.out] at s2
                have HT1 := Lib.hid T1
                clear T1
                go_wp2_with fail
                go_region
                all_goals
                  have T2 := HT1.out.putP C (X : Int)
                  first
                    | (obtain ⟨W2, e2⟩ : ∃ x : World, x = (W1.setCell ⟨g, C, none⟩ (.int .i64 (X : Int))).drew := ⟨_, rfl⟩
                       replace T2 := T2.drew
                       rw [← e2] at T2 ⊢)
                    | (obtain ⟨W2, e2⟩ : ∃ x : World, x = W1.setCell ⟨g, C, none⟩ (.int .i64 (X : Int)) := ⟨_, rfl⟩
                       rw [← e2] at T2 ⊢)
                  rw [HPS.out] at T2
                  clear e2 s1 f1 s2 f2 s3 f3
                  have ⟨s1, f1⟩ := T2.at1 hlt
                  have ⟨s2, f2⟩ := T2.at2 hjl
                  rw [V1.out] at s1
                  rw [V2.out] at s2
                  have hne3 := T2.n3
                  have T3 := (T2.put1 k ((X : Int) + 1)).put2 j ((C : Int) + 1)
                  rw [HOS.out, HCS.out] at T3
                  have HT3 := Lib.hid T3
                  clear T2 T3
                  go_wp2_with fail
                  go_roundw
                  case rel => exact ⟨t + 1, by omega, by apply val_int; omega, by rw [HX1.out]; exact HT3.out⟩
                  case measure => simp [intOf]; omega
            · obtain rfl : t = E := by omega
              have g9 : (t : Int) - (t : Int) = 0 := by omega
              rw [g9]
              go_wp2_with fail
              go_roundw
              case rel => exact ⟨j + 1, by omega, by go_num, by rw [HRS.out, ← HCT.out, ← Nat.add_assoc]; exact T⟩
              case measure => simp [intOf]; omega
        · obtain rfl : j = xss.length := by omega
          have HROW : Hid (P1 (tmF (enN xss) xss.length) N (cP (enN xss) xss.length k) = P1 (tmF (enN xss) xss.length) N (oP (enN xss) xss.length (k+1))) := by rw [Hid, hN]; exact tm_row HU.out hlt
          have HX1 := Lib.hid (opT_next (enN xss) xss.length k)
          have HX2 := Lib.hid (clT_nexti (enN xss) xss.length k)
          rw [HNX.out] at T
          go_wp2_with fail
          go_roundw
          case rel => exact ⟨k + 1, by omega, by go_num, by rw [← HROW.out]; exact T.o, by rw [← HX1.out]; exact T.o1, by rw [← HX2.out]; exact T.o2, T.b⟩
          case measure => simp [intOf]; omega
    · obtain rfl : k = xss.length := by omega
      subst hN
      have hTN : (tmL xss).length = oP (enN xss) xss.length xss.length := by rw [HTL.out, P1_len]
      go_wp2_with fail
      go_ret
      exact ⟨some ⟨g, 0, none⟩, oP (enN xss) xss.length xss.length, by rw [hTN]; rfl, by rw [hTN, HTL.out]; exact o.mono bw0.size, bw0.trans (hb.mono bw0.size)⟩

theorem l1All_any (a : Option Addr) (xs : List Int) (cap : Nat) (lo hi : Int) (w : World) (hx : Rd w a xs) :
    Calls Try.prog 137 #[.slice a xs.length cap, .int .i64 lo, .int .i64 hi] w fun e w' => e = .returned (.bool (allB xs lo hi)) ∧ w = w' := by
  have hlen := hx.len
  go_enter Try.func137, Try.ntmps137
  go_wp2_with fail
  go_loop [11] (fun i => ∃ k : Nat, k ≤ xs.length ∧ i = .int .i64 k ∧ allB (xs.take k) lo hi = true) (fun i => xs.length - (intOf i).toNat)
  case atStart => exact ⟨0, Nat.zero_le _, rfl, rfl⟩
  case round =>
    obtain ⟨k, hk, rfl, hall⟩ := hrel
    by_cases hlt : k < xs.length
    · obtain ⟨b, off, rfl, hbl, hc⟩ := hx.cell k hlt
      cases hin : inB (nth xs k) lo hi
      · have hf := Lib.hid (allB_false hlt hin)
        go_wp2_with (go_at_call 136; refine (l1In_any _ _ _ _).mono ?_; rintro e w' ⟨rfl, rfl⟩)
        go_ret
        exact ⟨ret_bool hf.out.symm, rfl⟩
      · go_wp2_with (go_at_call 136; refine (l1In_any _ _ _ _).mono ?_; rintro e w' ⟨rfl, rfl⟩)
        go_round
        case rel => exact ⟨k + 1, by omega, by go_num, by rw [allB_take _ _ _ _ hlt, hall, hin]; rfl⟩
        case measure => simp [intOf]; omega
    · go_wp2_with fail
      go_ret
      exact ⟨ret_bool (by rw [← hall, List.take_of_length_le (by omega)]), rfl⟩
theorem l1All_is {a : Option Addr} {xs : List Int} {cap : Nat} {lo hi : Int} {b : Bool} {w : World} (hx : Rd w a xs) (h : allB xs lo hi = b) (m : Nat) :
    Calls Try.prog 137 #[.slice a xs.length cap, .int .i64 lo, .int .i64 hi] (w.drewN m) fun e w' => e = .returned (.bool b) ∧ ∃ k, w' = w.drewN k :=
  Calls.quiet_of_same ((l1All_any a xs cap lo hi (w.drewN m) (hx.below (Joins.below_draws _ _ _))).mono (fun e w' hh => ⟨by rw [← h]; exact hh.1, hh.2.symm⟩))

def maxI (a b : Int) : Int := if b < a then a else b
theorem l1Most_any (a b : Int) (w : World) : Calls Try.prog 79 #[.int .i64 a, .int .i64 b] w fun e w' => e = .returned (.int .i64 (maxI a b)) ∧ w = w' := by
  by_cases h : b < a
  · have H : Hid (maxI a b = a) := by rw [Hid, maxI, if_pos h]
    go_enter Try.func79, Try.ntmps79
    go_wp2
    go_ret
    exact ⟨ret_int H.out.symm, rfl⟩
  · have H : Hid (maxI a b = b) := by rw [Hid, maxI, if_neg h]
    go_enter Try.func79, Try.ntmps79
    go_wp2
    go_ret
    exact ⟨ret_int H.out.symm, rfl⟩

theorem mostTo_succ (l : List Int) (k : Nat) : maxI (mostTo l k) (nth l k) = mostTo l (k+1) := rfl
theorem ivMost_any (a : Option Addr) (l : List Int) (cap : Nat) (w : World) (hx : Rd w a l) :
    Calls Try.prog 176 #[.slice a l.length cap] w fun e w' => e = .returned (.int .i64 (mostTo l l.length)) ∧ w = w' := by
  have hlen := hx.len
  go_enter Try.func176, Try.ntmps176
  go_wp2_with fail
  go_loop [3, 8] (fun m i => ∃ k : Nat, k ≤ l.length ∧ i = .int .i64 k ∧ m = .int .i64 (mostTo l k)) (fun _ i => l.length - (intOf i).toNat)
  case atStart => exact ⟨0, Nat.zero_le _, rfl, rfl⟩
  case round =>
    obtain ⟨k, hk, rfl, rfl⟩ := hrel
    by_cases hlt : k < l.length
    · obtain ⟨b, off, rfl, hbl, hc⟩ := hx.cell k hlt
      have HM := Lib.hid (mostTo_succ l k)
      go_wp2_with (go_at_call 79; refine (l1Most_any _ _ _).mono ?_; rintro e w' ⟨rfl, rfl⟩)
      go_round
      case rel => exact ⟨k + 1, by omega, by go_num, val_int HM.out⟩
      case measure => simp [intOf]; omega
    · obtain rfl : k = l.length := by omega
      go_wp2_with fail
      go_ret
      exact ⟨rfl, rfl⟩

set_option maxRecDepth 100000 in
theorem maGood_any (a : Option Addr) (xss : List (List Int)) (cap : Nat) (w : World) (hx : RdS w a xss) :
    Calls Try.prog 121 #[.agg #[.slice a xss.length cap]] w fun e w' => e = .returned (.bool (mxB xss)) ∧ Below w.heap.size w w' := by
  have hlen := hx.len
  have HX := Lib.hid hx
  by_cases h12 : 12 < xss.length
  · have H : Hid (mxB xss = false) := by
      rw [Hid, ← Bool.not_eq_true]
      intro h
      have := mxB_small h
      omega
    go_enter Try.func121, Try.ntmps121
    go_wp2_with fail
    go_ret
    exact ⟨ret_bool H.out.symm, (by repeat (first | exact Below.refl _ _ | assumption | refine Below.alloc ?_ (by first | exact Nat.le_refl _ | (simp only [World.size_alloc, World.size_setCell, World.size_drew]; omega) | omega) _ | refine Below.setCell ?_ (by first | exact Nat.le_refl _ | (simp only [World.size_alloc, World.size_setCell, World.size_drew]; omega) | omega) _ | refine Below.drew ?_))⟩
  · go_enter Try.func121, Try.ntmps121
    go_wp2_with fail
    go_loopw [17] (fun i wr => ∃ k : Nat, k ≤ xss.length ∧ i = .int .i64 k ∧ Hid (∀ j, j < k → rowG xss j) ∧ wr = (w.alloc (.cells #[.slice a xss.length cap] 62))) (fun i _ => xss.length - (intOf i).toNat)
    case atStart => exact ⟨0, Nat.zero_le _, rfl, fun j hj => by omega, rfl⟩
    case round =>
      obtain ⟨k, hk, rfl, HR, rfl⟩ := hrel
      by_cases hlt : k < xss.length
      · obtain ⟨b, off, a', cap', rfl, hbl, hc, hr⟩ := (HX.out.below (show Below w.heap.size w (w.alloc (.cells #[.slice a xss.length cap] 62)) from (by repeat (first | exact Below.refl _ _ | assumption | refine Below.alloc ?_ (by first | exact Nat.le_refl _ | (simp only [World.size_alloc, World.size_setCell, World.size_drew]; omega) | omega) _ | refine Below.setCell ?_ (by first | exact Nat.le_refl _ | (simp only [World.size_alloc, World.size_setCell, World.size_drew]; omega) | omega) _ | refine Below.drew ?_)))).row k hlt
        have k1 : (k : Int) < (xss.length : Int) := by omega
        by_cases hq : (rowL xss k).length = xss.length
        · have hqq : (((rowL xss k).length : Int) != (xss.length : Int)) = false := by simp [hq]
          have HQ := Lib.hid hq
          have hrl := hr.len
          cases hal : allB (rowL xss k) 0 12
          · have H : Hid (mxB xss = false) := by
              rw [Hid, ← Bool.not_eq_true]
              intro h
              rw [(rowG_of h hlt).2.1] at hal
              cases hal
            have HA := Lib.hid hal
            clear hq hal
            go_wp2_with fail
            refine (l1All_any _ _ _ _ _ _ hr).mono ?_
            rintro e w' ⟨rfl, rfl⟩
            rw [HA.out]
            go_wp2_with fail
            go_ret
            exact ⟨ret_bool H.out.symm, (by repeat (first | exact Below.refl _ _ | assumption | refine Below.alloc ?_ (by first | exact Nat.le_refl _ | (simp only [World.size_alloc, World.size_setCell, World.size_drew]; omega) | omega) _ | refine Below.setCell ?_ (by first | exact Nat.le_refl _ | (simp only [World.size_alloc, World.size_setCell, World.size_drew]; omega) | omega) _ | refine Below.drew ?_))⟩
          · have HA := Lib.hid hal
            by_cases hm : mostTo (rowL xss k) (rowL xss k).length = 0
            · have H : Hid (mxB xss = false) := by
                rw [Hid, ← Bool.not_eq_true]
                intro h
                exact (rowG_of h hlt).2.2.1 hm
              have HM := Lib.hid hm
              clear hq hal hm
              go_wp2_with fail
              refine (l1All_any _ _ _ _ _ _ hr).mono ?_
              rintro e w' ⟨rfl, rfl⟩
              rw [HA.out]
              go_wp2_with fail
              refine (ivMost_any _ _ _ _ hr).mono ?_
              rintro e w' ⟨rfl, rfl⟩
              rw [HM.out]
              go_wp2_with fail
              go_ret
              exact ⟨ret_bool H.out.symm, (by repeat (first | exact Below.refl _ _ | assumption | refine Below.alloc ?_ (by first | exact Nat.le_refl _ | (simp only [World.size_alloc, World.size_setCell, World.size_drew]; omega) | omega) _ | refine Below.setCell ?_ (by first | exact Nat.le_refl _ | (simp only [World.size_alloc, World.size_setCell, World.size_drew]; omega) | omega) _ | refine Below.drew ?_))⟩
            · have hmm : (mostTo (rowL xss k) (rowL xss k).length == 0) = false := by simp [hm]
              have HM := Lib.hid hm
              have HRD := Lib.hid hr
              clear hq hal hm
              obtain ⟨M, hM⟩ : ∃ M, M = mostTo (rowL xss k) (rowL xss k).length := ⟨_, rfl⟩
              have HMM := Lib.hid hM
              rw [← hM] at hmm
              clear hM
              go_wp2_with fail
              refine (l1All_any _ _ _ _ _ _ hr).mono ?_
              rintro e w' ⟨rfl, rfl⟩
              rw [HA.out]
              go_wp2_with fail
              refine (ivMost_any _ _ _ _ hr).mono ?_
              rintro e w' ⟨rfl, rfl⟩
              rw [← HMM.out]
              clear hr
              go_wp2_with fail
              go_loop [38] (fun i => ∃ q : Nat, q ≤ (rowL xss k).length ∧ i = .int .i64 q ∧ Hid (∀ j, j < q → j < k → atM xss k j = 0)) (fun i => (rowL xss k).length - (intOf i).toNat)
              case atStart => exact ⟨0, Nat.zero_le _, rfl, fun j hj => by omega⟩
              case round =>
                obtain ⟨q, hq2, rfl, HU⟩ := hrel
                by_cases hlt2 : q < (rowL xss k).length
                · obtain ⟨b2, off2, rfl, hbl2, hc2⟩ := HRD.out.cell q hlt2
                  have q1 : (q : Int) < ((rowL xss k).length : Int) := by omega
                  by_cases hqk : q < k
                  · have hqi : (q : Int) < (k : Int) := by omega
                    by_cases hp : 0 < nth (rowL xss k) q
                    · have H : Hid (mxB xss = false) := by
                        rw [Hid, ← Bool.not_eq_true]
                        intro h
                        have := (rowG_of h hlt).2.2.2 q hqk
                        rw [atM] at this
                        omega
                      go_wp2_with fail
                      go_ret
                      exact ⟨ret_bool H.out.symm, (by repeat (first | exact Below.refl _ _ | assumption | refine Below.alloc ?_ (by first | exact Nat.le_refl _ | (simp only [World.size_alloc, World.size_setCell, World.size_drew]; omega) | omega) _ | refine Below.setCell ?_ (by first | exact Nat.le_refl _ | (simp only [World.size_alloc, World.size_setCell, World.size_drew]; omega) | omega) _ | refine Below.drew ?_))⟩
                    · have HZ : Hid (atM xss k q = 0) := by
                        have := (allB_nth HA.out hlt2).1
                        rw [Hid, atM]; omega
                      go_wp2_with fail
                      go_round
                      case rel =>
                        refine ⟨q + 1, by omega, by go_num, fun j hj hjk => ?_⟩
                        by_cases e : j = q
                        · rw [e]; exact HZ.out
                        · exact HU.out j (by omega) hjk
                      case measure => simp [intOf]; omega
                  · have hqi : ¬ (q : Int) < (k : Int) := by omega
                    go_wp2_with fail
                    go_round
                    case rel =>
                      refine ⟨q + 1, by omega, by go_num, fun j hj hjk => HU.out j (by omega) hjk⟩
                    case measure => simp [intOf]; omega
                · have HG : Hid (rowG xss k) := ⟨HQ.out, HA.out, HM.out, fun j hj => HU.out j (by rw [HQ.out] at hlt2; rw [HQ.out] at hq2; have := HQ.out; omega) hj⟩
                  go_wp2_with fail
                  go_roundw
                  case rel =>
                    refine ⟨k + 1, by omega, by go_num, fun j hj => ?_, ?_⟩
                    · by_cases e : j = k
                      · rw [e]; exact HG.out
                      · exact HR.out j (by omega)
                    · first | rfl | trivial
                  case measure => simp [intOf]; omega
        · have hqq : (((rowL xss k).length : Int) != (xss.length : Int)) = true := by simp; omega
          have H : Hid (mxB xss = false) := by
            rw [Hid, ← Bool.not_eq_true]
            intro h
            exact hq (mxB_len h hlt)
          clear hq
          go_wp2_with fail
          go_ret
          exact ⟨ret_bool H.out.symm, (by repeat (first | exact Below.refl _ _ | assumption | refine Below.alloc ?_ (by first | exact Nat.le_refl _ | (simp only [World.size_alloc, World.size_setCell, World.size_drew]; omega) | omega) _ | refine Below.setCell ?_ (by first | exact Nat.le_refl _ | (simp only [World.size_alloc, World.size_setCell, World.size_drew]; omega) | omega) _ | refine Below.drew ?_))⟩
      · obtain rfl : k = xss.length := by omega
        have HL : Hid (∀ k, k < xss.length → (rowL xss k).length = xss.length) := fun k hk => (HR.out k hk).1
        have HV : Hid (∀ k, k < xss.length → ∀ j, j < (rowL xss k).length → 0 ≤ nth (rowL xss k) j ∧ nth (rowL xss k) j ≤ 12) := fun k hk j hj => allB_nth (HR.out k hk).2.1 hj
        clear hx
        go_wp2_with fail
        go_loopw [55] (fun i wr => ∃ k : Nat, k ≤ xss.length ∧ i = .int .i64 k ∧ Hid (∀ j, j < k → colG xss j) ∧ Below w.heap.size w wr ∧ wr.cell? ⟨w.heap.size, 0, none⟩ = some (.slice a xss.length cap) ∧ w.heap.size < wr.heap.size) (fun i _ => xss.length - (intOf i).toNat)
        case atStart => exact ⟨0, Nat.zero_le _, rfl, fun j hj => by omega, (by repeat (first | exact Below.refl _ _ | assumption | refine Below.alloc ?_ (by first | exact Nat.le_refl _ | (simp only [World.size_alloc, World.size_setCell, World.size_drew]; omega) | omega) _ | refine Below.setCell ?_ (by first | exact Nat.le_refl _ | (simp only [World.size_alloc, World.size_setCell, World.size_drew]; omega) | omega) _ | refine Below.drew ?_)), by simp, by simp⟩
        case round =>
          obtain ⟨q, hq, rfl, HC, hb, hcell, hsz⟩ := hrel
          have hbs := hb.size
          by_cases hlt : q < xss.length
          · have HCL := Lib.hid (maColumn_any a xss cap q wr (HX.out.below hb) (by omega) (fun k hk => by rw [HL.out k hk]; exact hlt))
            by_cases hm : mostTo (colL xss q) (colL xss q).length = 0
            · have H : Hid (mxB xss = false) := by
                rw [Hid, ← Bool.not_eq_true]
                intro h
                have := colG_of h hlt
                rw [colL_len] at hm
                exact this hm
              have HM := Lib.hid hm
              clear hm
              go_wp2_with fail
              refine HCL.out.mono ?_
              rintro e w2 ⟨a2, c2, rfl, hown, hb2⟩
              have HCC := Lib.hid (ivMost_any a2 (colL xss q) c2 w2 hown.rd)
              rw [HM.out, colL_len] at HCC
              go_wp2_with fail
              refine HCC.out.mono ?_
              rintro e w' ⟨rfl, rfl⟩
              go_wp2_with fail
              go_ret
              exact ⟨ret_bool H.out.symm, hb.trans (hb2.mono hbs)⟩
            · have HM : Hid (colG xss q) := by rw [Hid, colG]; rw [colL_len] at hm; exact hm
              obtain ⟨M, hM⟩ : ∃ M, M = mostTo (colL xss q) (colL xss q).length := ⟨_, rfl⟩
              have HMM := Lib.hid hM
              rw [← hM] at hm
              have hmm : (M == 0) = false := by simp [hm]
              clear hM hm
              go_wp2_with fail
              refine HCL.out.mono ?_
              rintro e w2 ⟨a2, c2, rfl, hown, hb2⟩
              have HCC := Lib.hid (ivMost_any a2 (colL xss q) c2 w2 hown.rd)
              rw [← HMM.out, colL_len] at HCC
              have hcell2 := (hb2.cell (p := ⟨w.heap.size, 0, none⟩) hsz).trans hcell
              have hs2 := hb2.size
              go_wp2_with fail
              refine HCC.out.mono ?_
              rintro e w' ⟨rfl, rfl⟩
              go_wp2_with fail
              go_roundw
              case rel =>
                refine ⟨q + 1, by omega, by go_num, fun j hj => ?_, hb.trans (hb2.mono hbs), hcell2, by omega⟩
                by_cases e : j = q
                · rw [e]; exact HM.out
                · exact HC.out j (by omega)
              case measure => simp [intOf]; omega
          · obtain rfl : q = xss.length := by omega
            have HS := Lib.hid (maSum_any a xss cap wr (HX.out.below hb) (by omega) HL.out HV.out)
            have H : Hid (decide (matS xss xss.length ≤ 12) = mxB xss) := (mx_of HR.out HC.out).symm
            have hge : -9223372036854775808 ≤ matS xss xss.length ∧ matS xss xss.length ≤ 9223372036854775807 ∨ True := .inr trivial
            go_wp2_with fail
            refine HS.out.mono ?_
            rintro e w2 ⟨rfl, hb2⟩
            go_wp2_with fail
            go_ret
            exact ⟨ret_bool H.out, hb.trans (hb2.mono hbs)⟩

theorem sMtMx_any (a : Option Addr) (xss : List (List Int)) (cap : Nat) (w : World) (hx : RdC w a xss) (hs : xss.length + totS xss xss.length ≤ 1048576) :
    Calls Try.prog 58 #[.agg #[.slice a xss.length cap]] w (GotI w (tmL xss) (mxB xss)) := by
  obtain ⟨W0, hW0⟩ : ∃ x : World, x = w.alloc (.cells #[.slice a xss.length cap] 62) := ⟨_, rfl⟩
  have bw0 : Below w.heap.size w W0 := by rw [hW0]; exact (Below.refl _ _).alloc (Nat.le_refl _) _
  have B0 : Box1 W0 w.heap.size (.slice a xss.length cap) := by rw [hW0]; exact Box1.new w _ _
  have hx0 := hx.below bw0
  obtain ⟨g0, hg0⟩ : ∃ g, g = w.heap.size := ⟨_, rfl⟩
  clear hx
  cases hb0 : mxB xss
  · have HL : Hid (tmL xss = []) := by simp [Hid, tmL, hb0]
    have HB := Lib.hid hb0
    clear hb0
    go_enter Try.func58, Try.ntmps58
    go_wp2_with fail
    rw [← hW0]
    rw [← hg0] at B0 ⊢
    have ⟨zB0, cB0⟩ := B0
    clear hg0 hW0
    go_wp2_with fail
    refine (maGood_any _ _ _ _ hx0.rd).mono ?_
    rintro e w1 ⟨rfl, hb⟩
    rw [HB.out]
    clear cB0
    go_wp2_with fail
    refine bodyPost_ret (v := .tuple #[.slice none 0 0, .bool false]) (by simp [results, Try.results58, go_sem]) rfl ?_
    exact gotI_no HL.out rfl (bw0.trans (hb.mono bw0.size))
  · have HB := Lib.hid hb0
    clear hb0
    go_enter Try.func58, Try.ntmps58
    go_wp2_with fail
    rw [← hW0]
    rw [← hg0] at B0 ⊢
    have ⟨zB0, cB0⟩ := B0
    clear hg0 hW0
    go_wp2_with fail
    refine (maGood_any _ _ _ _ hx0.rd).mono ?_
    rintro e w1 ⟨rfl, hb⟩
    rw [HB.out]
    have hx1 := hx0.below hb
    have ⟨zB1, cB1⟩ := B0.below hb
    clear cB0
    go_wp2_with fail
    refine (stOf_any _ _ _ _ hx1 HB.out).mono ?_
    rintro e w2 ⟨a2, c2, rfl, ho2, hb2⟩
    have b1 := bw0.trans (hb.mono bw0.size)
    go_wp2_with fail
    refine bodyPost_ret (v := .tuple #[.slice a2 (tmL xss).length c2, .bool true]) (by simp [results, Try.results58, go_sem]) rfl ?_
    exact ⟨a2, c2, rfl, ho2.mono b1.size, b1.trans (hb2.mono b1.size)⟩

theorem iIsMatching_any (a : Option Addr) (xs : List Int) (cap : Nat) (w : World) (hx : Rd w a xs) :
    Calls Try.prog 126 #[.slice a xs.length cap] w fun e w' => e = .returned (.bool (mcB xs)) ∧ Below w.heap.size w w' := by
  have hlen := hx.len
  by_cases hl : xs.length ≤ 24
  · go_enter Try.func126, Try.ntmps126
    go_wp2_with fail
    go_loopw [10] (fun i wr => ∃ k : Nat, k ≤ xs.length ∧ i = .int .i64 k ∧ (∀ j, j < k → ptOk xs j = true) ∧ Below w.heap.size w wr) (fun i _ => xs.length - (intOf i).toNat)
    case atStart => exact ⟨0, Nat.zero_le _, rfl, fun j hj => by omega, Below.refl _ _⟩
    case round =>
      obtain ⟨k, hk, rfl, hall, hb⟩ := hrel
      have HA := Lib.hid hall
      clear hall
      by_cases hlt : k < xs.length
      · have hxr := hx.below hb
        obtain ⟨b, off, rfl, hbl, hc⟩ := hxr.cell k hlt
        by_cases h1 : nth xs k < 0
        · have HO : Hid (mcB xs = false) := mcB_no hlt (by have : inB (nth xs k) 0 ((xs.length : Int) - 1) = false := inB_no.2 (.inl h1); simp [ptOk, this])
          go_wp2_with fail
          go_ret
          exact ⟨ret_bool HO.out.symm, hb⟩
        · by_cases h2 : (xs.length : Int) ≤ nth xs k
          · have HO : Hid (mcB xs = false) := mcB_no hlt (by have : inB (nth xs k) 0 ((xs.length : Int) - 1) = false := inB_no.2 (.inr (by omega)); simp [ptOk, this])
            go_wp2_with fail
            go_ret
            exact ⟨ret_bool HO.out.symm, hb⟩
          · have HI : Hid (inB (nth xs k) 0 ((xs.length : Int) - 1) = true) := inB_iff.2 ⟨by omega, by omega⟩
            obtain ⟨j, hj⟩ : ∃ j : Nat, nth xs k = (j : Int) := ⟨(nth xs k).toNat, by omega⟩
            have hjl : j < xs.length := by omega
            obtain ⟨b', off', e', hbl', hc'⟩ := hxr.cell j hjl
            simp only [Option.some.injEq, Addr.mk.injEq, and_true] at e'
            obtain ⟨rfl, rfl⟩ := e'
            rw [hj] at hc
            have HJ := Lib.hid hj
            rw [hj] at HI
            clear h1 h2 hj
            by_cases hjk : j = k
            · subst hjk
              have HO : Hid (mcB xs = false) := mcB_no hlt (by simp [ptOk, HJ.out])
              clear hc'
              go_wp2_with fail
              go_ret
              exact ⟨ret_bool HO.out.symm, hb⟩
            · have q1 : ((j : Int) == (k : Int)) = false := by simp; omega
              by_cases hp : nth xs j = (k : Int)
              · have HO : Hid (ptOk xs k = true) := by
                  have := HI.out
                  simp [Hid, ptOk, this, HJ.out, hp]; omega
                rw [hp] at hc'
                clear hp
                go_wp2_with fail
                go_roundw
                case rel =>
                  refine ⟨k + 1, by omega, by go_num, fun j hj => ?_, hb⟩
                  by_cases e : j = k
                  · rw [e]; exact HO.out
                  · exact HA.out j (by omega)
                case measure => simp [intOf]; omega
              · have HO : Hid (mcB xs = false) := mcB_no hlt (by simp [ptOk, HJ.out, hp])
                have q2 : (nth xs j != (k : Int)) = true := by simp [hp]
                clear hp
                go_wp2_with fail
                go_ret
                exact ⟨ret_bool HO.out.symm, hb⟩
      · obtain rfl : k = xs.length := by omega
        have HO : Hid (mcB xs = true) := mcB_iff.2 ⟨hl, HA.out⟩
        go_wp2_with fail
        go_ret
        exact ⟨ret_bool HO.out.symm, hb⟩
  · have HO := Lib.hid (mcB_long (xs := xs) (by omega))
    go_enter Try.func126, Try.ntmps126
    go_wp2_with fail
    go_ret
    exact ⟨ret_bool HO.out.symm, Below.refl _ _⟩

theorem isOpener_any (a : Option Addr) (xs : List Int) (n cap k : Nat) (w : World) (hx : Rd w a xs) (hk : k < xs.length) (hn : n = xs.length) :
    Calls Try.prog 180 #[.slice a n cap, .int .i64 (k : Int)] w fun e w' => e = .returned (.bool (opB xs k)) ∧ w = w' := by
  have hlen := hx.len
  obtain ⟨b, off, rfl, hbl, hc⟩ := hx.cell k hk
  subst hn
  have k1 : (k : Int) < (xs.length : Int) := by omega
  go_enter Try.func180, Try.ntmps180
  go_wp2_with fail
  go_ret
  exact ⟨rfl, rfl⟩
theorem isOpener_is {a : Option Addr} {xs : List Int} {n cap k : Nat} {w : World} {b : Bool} (hx : Rd w a xs) (hk : k < xs.length) (hn : n = xs.length) (hb : opB xs k = b) (m : Nat) :
    Calls Try.prog 180 #[.slice a n cap, .int .i64 (k : Int)] (w.drewN m) fun e w' => e = .returned (.bool b) ∧ ∃ k, w' = w.drewN k :=
  Calls.quiet_of_same ((isOpener_any a xs n cap k (w.drewN m) (hx.below (Joins.below_draws _ _ _)) hk hn).mono (fun e w' hh => ⟨by rw [← hb]; exact hh.1, hh.2.symm⟩))

theorem isSameRun_s (a : Option Addr) (xs : List Int) (n cap k : Nat) (l : Int) (w : World) (hx : Rd w a xs) (hk : k + 1 < xs.length) (hn : n = xs.length) (hl : l = (k : Int) + 1) :
    Calls Try.prog 132 #[.slice a n cap, .int .i64 (k : Int), .int .i64 l] w fun e w' => e = .returned (.bool (smB xs k)) ∧ w = w' := by
  obtain rfl : l = ((k + 1 : Nat) : Int) := by omega
  clear hl
  have HN := Lib.hid hn
  clear hn
  go_enter Try.func132, Try.ntmps132
  go_wp2_with fail
  refine (isOpener_any _ xs _ _ _ _ hx (by omega) HN.out).mono ?_
  rintro e w1 ⟨rfl, rfl⟩
  go_wp2_with fail
  refine (isOpener_any _ xs _ _ _ _ hx hk HN.out).mono ?_
  rintro e w1 ⟨rfl, rfl⟩
  go_wp2_with fail
  go_ret
  exact ⟨rfl, rfl⟩
theorem isSameRun_any (a : Option Addr) (xs : List Int) (n cap k : Nat) (l : Int) (w : World) (hx : Rd w a xs) (hk : k + 1 < xs.length) (hn : n = xs.length) (hl : l = (k : Int) + 1) :
    Calls Try.prog 132 #[.slice a n cap, .int .i64 (k : Int), .int .i64 l] w fun e w' => e = .returned (.bool (smB xs k)) ∧ Below w.heap.size w w' :=
  (isSameRun_s a xs n cap k l w hx hk hn hl).mono (fun e w' ⟨h1, h2⟩ => ⟨h1, by rw [h2]; exact Below.refl _ _⟩)
theorem isSameRun_is {a : Option Addr} {xs : List Int} {n cap k : Nat} {l : Int} {w : World} {b : Bool} (hx : Rd w a xs) (hk : k + 1 < xs.length) (hn : n = xs.length) (hl : l = (k : Int) + 1) (hb : smB xs k = b) (m : Nat) :
    Calls Try.prog 132 #[.slice a n cap, .int .i64 (k : Int), .int .i64 l] (w.drewN m) fun e w' => e = .returned (.bool b) ∧ ∃ k, w' = w.drewN k :=
  Calls.quiet_of_same ((isSameRun_s a xs n cap k l (w.drewN m) (hx.below (Joins.below_draws _ _ _)) hk hn hl).mono (fun e w' hh => ⟨by rw [← hb]; exact hh.1, hh.2.symm⟩))

set_option maxRecDepth 100000 in
theorem iNear_any (a : Option Addr) (xs : List Int) (cap : Nat) (w : World) (hx : Rd w a xs) :
    Calls Try.prog 67 #[.slice a xs.length cap] w (GotI w (neL xs) (mcB xs)) := by
  have hlen := hx.len
  go_enter Try.func67, Try.ntmps67
  go_wp2_with fail
  refine (iIsMatching_any _ _ _ _ hx).mono ?_
  rintro e w1 ⟨rfl, hb1⟩
  cases hb0 : mcB xs
  · have HL : Hid (neL xs = []) := by simp [Hid, neL, hb0]
    have HB := Lib.hid hb0
    clear hb0
    go_wp2_with fail
    refine bodyPost_ret (v := .tuple #[.slice none 0 0, .bool false]) (by simp [results, Try.results67, go_sem]) rfl ?_
    exact gotI_no HL.out HB.out hb1
  · have HL : Hid (neL xs = neTo xs (xs.length - 1)) := by simp [Hid, neL, hb0]
    have h24 := mcB_len hb0
    have HB := Lib.hid hb0
    clear hb0
    go_wp2_with fail
    go_loopw [4, 12] (fun v i wr => ∃ k : Nat, k ≤ xs.length - 1 ∧ i = .int .i64 k ∧ OwnI wr w.heap.size v (neTo xs k) ∧ Below w.heap.size w wr) (fun _ i _ => xs.length - (intOf i).toNat)
    case atStart => exact ⟨0, Nat.zero_le _, rfl, OwnI.nil _ _, hb1⟩
    case round =>
      clear hb1
      obtain ⟨k, hk, rfl, hown, hb⟩ := hrel
      have hnl := neTo_len xs k
      have hbs := hb.size
      by_cases hlt : k + 1 < xs.length
      · obtain ⟨b, off, rfl, hbl, hc⟩ := (hx.below hb).cell k (by omega)
        obtain ⟨b', off', e', hbl', hc'⟩ := (hx.below hb).cell (k+1) hlt
        simp only [Option.some.injEq, Addr.mk.injEq, and_true] at e'
        obtain ⟨rfl, rfl⟩ := e'
        have HQ : Hid (nearB xs k = (smB xs k && decide (nth xs (k+1) < nth xs k))) := rfl
        have HS : Hid (neTo xs (k+1) = if nearB xs k then neTo xs k ++ [(k : Int)] else neTo xs k) := rfl
        obtain ⟨ys, hys⟩ : ∃ ys, ys = neTo xs k := ⟨_, rfl⟩
        rw [← hys] at hown hnl HS
        clear hys
        have HLT := Lib.hid hlt
        have k1 : (k : Int) < (xs.length : Int) - 1 := by omega
        obtain ⟨k', hk'⟩ : ∃ k', k' = k + 1 := ⟨_, rfl⟩
        have HK := Lib.hid hk'
        have hcast : IntKind.i64.wrap ((k : Int) + 1) = (k' : Int) := by rw [i64_wrap, IntWalk.wrap64_in _ ⟨by omega, by omega⟩]; omega
        rw [← hk'] at hc' hlt HS HQ
        have k2 : (k' : Int) < (xs.length : Int) := by omega
        have k3 : (k : Int) < (xs.length : Int) := by omega
        have hxr := hx.below hb
        clear hk' hx
        cases h1 : smB xs k <;> cases h3 : decide (nth xs k' < nth xs k)
        all_goals
          have HP : Hid (nearB xs k = _) := HQ.out.trans (by rw [h1, h3])
          have H1 := Lib.hid h1
          clear h1
          go_wp2_with fail
          go_quiet ((go_at_call 132; exact isSameRun_is hxr HLT.out rfl (by have := HK.out; omega) H1.out _))
          have hbq := hb.trans ((Joins.below_draws wr.heap.size wr nq).mono hbs)
          have howq := hown.below (Joins.below_draws wr.heap.size wr nq) (Nat.le_refl _)
          have hbz := hbq.size
          obtain ⟨wq, hwq⟩ : ∃ x : World, x = wr.drewN nq := ⟨_, rfl⟩
          rw [← hwq] at hbq howq hbz ⊢
          clear hwq
          go_wp2_with (at_builtin; refine push_at rfl _ _ rfl (z := (k : Int)) rfl howq rfl (by omega) hbz ?_; intro v3 w3 o3 hg _; have b3 := hbq.trans (below_of_grown hg (fun c e => (howq.lt c e).1) hbz); clear hg howq)
          go_roundw
          case rel =>
            first
              | exact ⟨k', by omega, by rw [HK.out], by rw [HS.out, HP.out]; exact o3, by exact b3⟩
              | exact ⟨k', by omega, by rw [HK.out], by rw [HS.out, HP.out]; exact howq, by exact hbq⟩
          case measure => have := HK.out; simp [intOf]; omega
      · obtain rfl : k = xs.length - 1 := by omega
        have k1 : ¬ ((xs.length - 1 : Nat) : Int) < (xs.length : Int) - 1 := by omega
        obtain ⟨a', cap', rfl⟩ := hown.form
        go_wp2_with fail
        refine bodyPost_ret (v := .tuple #[.slice a' (neTo xs (xs.length - 1)).length cap', .bool true]) (by simp [results, Try.results67, go_sem]) rfl ?_
        exact ⟨a', cap', by rw [HL.out, HB.out], by rw [HL.out]; exact hown, hb⟩

theorem iIsTidy_any (a : Option Addr) (xs : List Int) (cap : Nat) (w : World) (hx : Rd w a xs) :
    Calls Try.prog 59 #[.slice a xs.length cap] w fun e w' => e = .returned (.tuple #[.bool (tdB xs), .bool (mcB xs)]) ∧ Below w.heap.size w w' := by
  obtain ⟨L, hL⟩ : ∃ L, L = neL xs := ⟨_, rfl⟩
  have HC := Lib.hid (fun W hr => iNear_any a xs cap W hr)
  have hll := neL_len xs
  rw [← hL] at HC hll
  obtain ⟨B, hB⟩ : ∃ B, B = mcB xs := ⟨_, rfl⟩
  rw [← hB] at HC ⊢
  cases B
  · have HL : Hid (tdB xs = false) := tdB_no hB.symm
    clear hB hL
    go_enter Try.func59, Try.ntmps59
    go_wp2_with fail
    refine (HC.out _ hx).mono ?_
    rintro e w2 ⟨a2, c2, rfl, ho2, hb2⟩
    go_wp2_with fail
    refine bodyPost_ret (v := .tuple #[.bool false, .bool false]) (by simp [results, Try.results59, go_sem]) rfl ?_
    exact ⟨by rw [HL.out], hb2⟩
  · have HT : Hid (tdB xs = decide (L.length = 0)) := by simp [Hid, tdB, hB.symm, hL, neL]
    clear hB hL
    go_enter Try.func59, Try.ntmps59
    go_wp2_with fail
    refine (HC.out _ hx).mono ?_
    rintro e w2 ⟨a2, c2, rfl, ho2, hb2⟩
    clear ho2
    by_cases h0 : L.length = 0
    · have h1 : ((L.length : Int) == 0) = true := by simp [h0]
      have H0 := Lib.hid h0
      clear h0
      go_wp2_with fail
      refine bodyPost_ret (v := .tuple #[.bool true, .bool true]) (by simp [results, Try.results59, go_sem]) rfl ?_
      exact ⟨by rw [HT.out, decide_eq_true H0.out], hb2⟩
    · have h1 : ((L.length : Int) == 0) = false := by simpa using h0
      have H0 := Lib.hid h0
      clear h0
      go_wp2_with fail
      refine bodyPost_ret (v := .tuple #[.bool false, .bool true]) (by simp [results, Try.results59, go_sem]) rfl ?_
      exact ⟨by rw [HT.out, decide_eq_false H0.out], hb2⟩

def rnF (xs : List Int) (k : Nat) : Int := (rnN xs k : Int)
set_option maxRecDepth 100000 in
theorem runNumbers_any (a : Option Addr) (xs : List Int) (cap : Nat) (w : World) (hx : Rd w a xs) (hl : xs.length ≤ 24) :
    Calls Try.prog 124 #[.slice a xs.length cap] w fun e w' => ∃ a' cap', e = .returned (.slice a' xs.length cap') ∧ OwnI w' w.heap.size (.slice a' xs.length cap') (fmap (rnF xs) xs.length) ∧ Below w.heap.size w w' := by
  obtain ⟨i0, hi, hz0, hz1, hz2⟩ := info_parts infoInt
  go_enter Try.func124, Try.ntmps124
  go_wp2_with (at_make; refine wpList_make_full _ rfl (.tmp 6) (.tmp 6) 24 rfl w.heap.size 3 i0 (.int .i64 0) 1 Try.underlying24 hi hz0 hz1 .i64 .i64 _ _ xs.length rfl rfl rfl rfl (by rw [hz2]; omega) (by unfold maxLen; omega) (Nat.le_refl _) ?_; intro w3 hown hgrow)
  have b3 : Below w.heap.size w w3 := (Below.refl _ _).grown hgrow (Nat.le_refl _) (fun k h => by cases h)
  have hown0 := made_row (rnF xs) hown
  have e0 : rowF (rnF xs) xs.length 0 = rowF (rnF xs) xs.length (min 1 xs.length) := by
    by_cases h : xs.length = 0
    · rw [h]; rfl
    · rw [show min 1 xs.length = 0 + 1 by omega, ← rowF_set _ (by omega)]
      exact (rowF_zero _ (by omega)).symm
  rw [e0] at hown0
  obtain ⟨g, hg⟩ : ∃ g, g = w.heap.size := ⟨_, rfl⟩
  have hgz : w.heap.size ≤ g := by omega
  rw [← hg] at hown0
  have hown1 : OwnI w3 w.heap.size (.slice (some ⟨g, 0, none⟩) xs.length xs.length) (rowF (rnF xs) xs.length (min 1 xs.length)) := by rw [hg] at hown0 ⊢; exact hown0
  have HG := Lib.hid hg
  rw [← hg]
  clear hown hgrow e0 hown0 hg
  go_wp2_with fail
  go_loopw [11] (fun i wr => ∃ k : Nat, k ≤ xs.length - 1 ∧ i = .int .i64 k ∧ OwnI wr w.heap.size (.slice (some ⟨g, 0, none⟩) xs.length xs.length) (rowF (rnF xs) xs.length (min (k+1) xs.length)) ∧ Below w.heap.size w wr) (fun i _ => xs.length - (intOf i).toNat)
  case atStart => exact ⟨0, Nat.zero_le _, rfl, hown1, b3⟩
  case round =>
    clear b3 hown1
    obtain ⟨k, hk, rfl, hown, hb⟩ := hrel
    have hbs := hb.size
    have hrl := rnN_le xs k
    by_cases hlt : k + 1 < xs.length
    · have e1 : min (k+1) xs.length = k + 1 := by omega
      have e2 : min (k+1+1) xs.length = k + 1 + 1 := by omega
      rw [e1] at hown
      have hl0 : (rowF (rnF xs) xs.length (k+1)).length = xs.length := rowF_len _ (by omega)
      have hvk : nth (rowF (rnF xs) xs.length (k+1)) k = rnF xs k := by
        simp only [nth, rowF, List.getD_eq_getElem?_getD]; rw [List.getElem?_append_left (by rw [fmap_len]; omega)]; simp [fmap]
      have ⟨c0, f0⟩ := hown.at' hl0.symm (i := k) (by omega)
      have ⟨c1, f1⟩ := hown.at' hl0.symm (i := k+1) (by omega)
      rw [hvk] at c0
      have o1 := (hown.put hl0.symm (k+1) (rnF xs k)).1
      have hset : ∀ v, ((rowF (rnF xs) xs.length (k+1)).set (k+1) (rnF xs k)).set (k+1) v = (rowF (rnF xs) xs.length (k+1)).set (k+1) v := fun v => List.set_set ..
      have hb1 := hb.setCell (p := ⟨g, k+1, none⟩) hgz (.int .i64 (rnF xs k))
      have hl1 : ((rowF (rnF xs) xs.length (k+1)).set (k+1) (rnF xs k)).length = xs.length := by rw [List.length_set]; exact hl0
      have ⟨c2, f2⟩ := o1.at' hl1.symm (i := k+1) (by omega)
      have hv2 : nth ((rowF (rnF xs) xs.length (k+1)).set (k+1) (rnF xs k)) (k+1) = rnF xs k := by rw [nth_set (by omega), if_pos rfl]
      rw [hv2] at c2
      have o2 := (o1.put hl1.symm (k+1) (rnF xs k + 1)).1
      rw [hset] at o2
      have HR : Hid (0 ≤ rnF xs k ∧ rnF xs k ≤ 24) := by rw [Hid, rnF]; omega
      have HE2 := Lib.hid e2
      have HO := Lib.hid (And.intro o1 hb1)
      have HO2 := Lib.hid (And.intro o2 (hb1.setCell (p := ⟨g, k+1, none⟩) hgz (.int .i64 (rnF xs k + 1))))
      have hxr := hx.below hb1
      have HSET := Lib.hid (rowF_set (rnF xs) (m := xs.length) (k := k+1) hlt)
      have HSM := fun W (hr : Rd W a xs) => isSameRun_s a xs xs.length cap k ((k : Int) + 1) W hr hlt rfl rfl
      have HSAME : smB xs k = true → rnF xs (k+1) = rnF xs k := fun h => by simp [rnF, rnN, h]
      have HDIFF : smB xs k = false → rnF xs (k+1) = rnF xs k + 1 := fun h => by simp [rnF, rnN, h]
      have k1 : (k : Int) < (xs.length : Int) - 1 := by omega
      have k2 : (k : Int) + 1 < (xs.length : Int) := by omega
      have ⟨r0, r1⟩ := HR.out
      have f2' := f2
      obtain ⟨f1', hf1'⟩ : ∃ r, r = rnF xs (k+1) := ⟨_, rfl⟩
      rw [← hf1'] at HSET HSAME HDIFF
      obtain ⟨r, hr⟩ : ∃ r, r = rnF xs k := ⟨_, rfl⟩
      rw [← hr] at c0 r0 r1 HO HO2 HSAME HDIFF c2 hxr
      cases h1 : smB xs k
      · have HN := Lib.hid (HDIFF h1)
        rw [h1] at HSM
        have HS := Lib.hid HSM
        clear o1 o2 hl1 hv2 hset hvk hl0 e1 e2 hown HR HSM HSAME HDIFF hr h1 hf1' hb1
        go_wp2_with fail
        refine (HS.out _ hxr).mono ?_
        rintro e w2 ⟨rfl, rfl⟩
        go_wp2_with fail
        go_roundw
        case rel => exact ⟨k + 1, by omega, by go_num, by rw [HE2.out, ← HSET.out, HN.out]; exact HO2.out.1, HO2.out.2⟩
        case measure => simp [intOf]; omega
      · have HN := Lib.hid (HSAME h1)
        rw [h1] at HSM
        have HS := Lib.hid HSM
        clear o1 o2 hl1 hv2 hset hvk hl0 e1 e2 hown HR HSM HSAME HDIFF hr h1 hf1' hb1
        go_wp2_with fail
        refine (HS.out _ hxr).mono ?_
        rintro e w2 ⟨rfl, rfl⟩
        go_wp2_with fail
        go_roundw
        case rel => exact ⟨k + 1, by omega, by go_num, by rw [HE2.out, ← HSET.out, HN.out]; exact HO.out.1, HO.out.2⟩
        case measure => simp [intOf]; omega
    · obtain rfl : k = xs.length - 1 := by omega
      have k1 : ¬ ((xs.length - 1 : Nat) : Int) < (xs.length : Int) - 1 := by omega
      have e1 : min (xs.length - 1 + 1) xs.length = xs.length := by omega
      rw [e1, rowF_end] at hown
      go_wp2_with fail
      go_ret
      exact ⟨_, _, rfl, hown, hb⟩

set_option maxRecDepth 100000 in
theorem iRuns_any (a : Option Addr) (xs : List Int) (cap : Nat) (w : World) (hx : Rd w a xs) :
    Calls Try.prog 61 #[.slice a xs.length cap] w (GotI w (rlL xs) (mcB xs)) := by
  have hlen := hx.len
  go_enter Try.func61, Try.ntmps61
  go_wp2_with fail
  refine (iIsMatching_any _ _ _ _ hx).mono ?_
  rintro e w1 ⟨rfl, hb1⟩
  cases hb0 : mcB xs
  · have HL : Hid (rlL xs = []) := by simp [Hid, rlL, hb0]
    have HB := Lib.hid hb0
    clear hb0
    go_wp2_with fail
    refine bodyPost_ret (v := .tuple #[.slice none 0 0, .bool false]) (by simp [results, Try.results61, go_sem]) rfl ?_
    exact gotI_no HL.out HB.out hb1
  · have HL : Hid (rlL xs = rlTo xs xs.length) := by simp [Hid, rlL, hb0]
    have h24 := mcB_len hb0
    have HB := Lib.hid hb0
    clear hb0
    go_wp2_with fail
    refine (runNumbers_any _ _ _ _ (hx.below hb1) h24).mono ?_
    rintro e w2 ⟨a2, c2, rfl, ho2, hb2⟩
    have bw2 := hb1.trans (hb2.mono hb1.size)
    have hr2 := ho2.rd
    have hz2 := bw2.size
    clear ho2 hb2 hb1
    go_wp2_with fail
    go_loopw [4, 13] (fun v i wr => ∃ k : Nat, k ≤ xs.length ∧ i = .int .i64 k ∧ OwnI wr w2.heap.size v (rlTo xs k) ∧ Below w2.heap.size w2 wr) (fun _ i _ => xs.length - (intOf i).toNat)
    case atStart => exact ⟨0, Nat.zero_le _, rfl, OwnI.nil _ _, Below.refl _ _⟩
    case round =>
      obtain ⟨k, hk, rfl, hown, hb⟩ := hrel
      have hnl := rlTo_le xs k
      have hbs := hb.size
      by_cases hlt : k < xs.length
      · have hf : (fmap (rnF xs) xs.length).length = xs.length := fmap_len _ _
        obtain ⟨b, off, rfl, hbl, hc⟩ := (hr2.below hb).cell k (by omega)
        rw [fmap_nth _ hlt, rnF] at hc
        have HS : Hid (rlTo xs (k+1) = if rlB xs k then (rlTo xs k).set ((rlTo xs k).length - 1) (nth (rlTo xs k) ((rlTo xs k).length - 1) + 1) else rlTo xs k ++ [1]) := rfl
        have HVl := Lib.hid (rlTo_val xs k)
        have HLN : Hid (0 < k → (rlTo xs k).length = rnN xs (k-1) + 1) := fun h => by
          obtain ⟨j, rfl⟩ : ∃ j, k = j + 1 := ⟨k - 1, by omega⟩
          exact rlTo_len xs j
        have HRN : Hid (rlB xs k = true → rnN xs k = (rlTo xs k).length - 1 ∧ 0 < (rlTo xs k).length) := fun h => by
          simp only [rlB, Bool.and_eq_true, decide_eq_true_eq] at h
          obtain ⟨j, rfl⟩ : ∃ j, k = j + 1 := ⟨k - 1, by omega⟩
          rw [rlTo_len, rnN, if_pos (by simpa using h.2)]
          exact ⟨by omega, by omega⟩
        have HRM : Hid (rlB xs k = false → rnN xs k = (rlTo xs k).length) := fun h => by
          by_cases h0 : k = 0
          · subst h0; rfl
          · obtain ⟨j, rfl⟩ : ∃ j, k = j + 1 := ⟨k - 1, by omega⟩
            simp only [rlB, Nat.add_sub_cancel, show decide (0 < j + 1) = true by simp, Bool.true_and] at h
            rw [rlTo_len, rnN, if_neg (by simp [h])]
        obtain ⟨ys, hys⟩ : ∃ ys, ys = rlTo xs k := ⟨_, rfl⟩
        rw [← hys] at hown hnl HS HVl HLN HRN HRM
        clear hys
        obtain ⟨ya, yc, rfl⟩ := hown.form
        cases h1 : rlB xs k
        · have e := HRM.out h1
          rw [e] at hc
          have HN : Hid (rlTo xs (k+1) = ys ++ [1]) := by rw [Hid, HS.out, h1]; rfl
          clear e h1
          go_wp2_with (at_builtin; refine push_at rfl _ _ rfl (z := 0) rfl hown rfl (by omega) hbs ?_; intro v3 w3 o3 hg _; have b3 := hb.trans (below_of_grown hg (fun c e => (hown.lt c e).1) hbs); obtain ⟨g7, c7, rfl, h70, h71, c70, f70, p7⟩ := own_snoc o3; clear hg hown)
          go_roundw
          case rel => exact ⟨k + 1, by omega, by go_num, by rw [HN.out]; exact p7 _, by exact b3.setCell (p := ⟨g7, _, none⟩) h70 _⟩
          case measure => simp [intOf]; omega
        · have ⟨e, hp⟩ := HRN.out h1
          rw [e] at hc
          have HN : Hid (rlTo xs (k+1) = ys.set (ys.length - 1) (nth ys (ys.length - 1) + 1)) := by rw [Hid, HS.out, h1]; rfl
          obtain ⟨g, rfl, hg0, hg1⟩ := hown.head hp
          have ⟨cj, fj⟩ := hown.at' rfl (i := ys.length - 1) (by omega)
          have HPut := Lib.hid (hown.put rfl (ys.length - 1) (nth ys (ys.length - 1) + 1)).1
          have q1 : (((ys.length - 1 : Nat) : Int) == (ys.length : Int)) = false := by simp; omega
          have hv := HVl.out (ys.length - 1) (by omega)
          obtain ⟨v, hv'⟩ : ∃ v, v = nth ys (ys.length - 1) := ⟨_, rfl⟩
          obtain ⟨l, hl'⟩ : ∃ l, l = ys.length - 1 := ⟨_, rfl⟩
          have hl2 : (l : Int) < (ys.length : Int) := by omega
          rw [← hv'] at cj HPut hv HN
          rw [← hl'] at cj fj HPut q1 hc HN
          have HP2 := Lib.hid hp
          clear e h1 hv' hl' hp
          go_wp2_with fail
          go_roundw
          case rel => exact ⟨k + 1, by omega, by go_num, by rw [HN.out]; exact HPut.out, by exact hb.setCell (p := ⟨g, _, none⟩) hg0 _⟩
          case measure => simp [intOf]; omega
      · obtain rfl : k = xs.length := by omega
        obtain ⟨a', cap', rfl⟩ := hown.form
        go_wp2_with fail
        refine bodyPost_ret (v := .tuple #[.slice a' (rlTo xs xs.length).length cap', .bool true]) (by simp [results, Try.results61, go_sem]) rfl ?_
        exact ⟨a', cap', by rw [HL.out, HB.out], by rw [HL.out]; exact hown.mono hz2, bw2.trans (hb.mono hz2)⟩

/-- one pair more at the end of a row of pairs that is owned -/
theorem push_iv {ops : Array Oper} {rest : List Oper} {o : Oper} {a : Act} {Q : Exit → Act → World → Prop} (hgd : o.guard = none) (s x : Operand)
    (ho : o.op = .call { callee := .builtin .append, args := #[s, x], argTypes := #[132, 132] }) {wr : World} {B n : Nat} {v : Value} {cs : List Int} {l r : Int} {g : Nat}
    (hs : a.eval s = v) (hx : a.eval x = .slice (some ⟨g, 0, none⟩) 1 1) (hown : OwnV wr B v n cs) (hgz : wr.heap.size = g) (h63 : n ≤ 1048576) (hB : B ≤ wr.heap.size)
    (h : ∀ v' w', OwnV w' B v' (n + 1) (cs ++ [l, r]) → wr.grownBy w' v.ownBlock → (v'.ownBlock = v.ownBlock ∨ v'.ownBlock = some (g + 1)) → wpList Try.prog ops Q rest (a.put o.dst v') w') :
    wpList Try.prog ops Q (o :: rest) a (wr.alloc (.cells #[.int .i64 l, .int .i64 r] 135)) := by
  subst hgz
  obtain ⟨i0, hi, hz0, hz1, hz2⟩ := info_parts infoIv
  refine wpList_append_own_at _ hgd s x 132 ho B 135 i0 (.agg #[.int .i64 0, .int .i64 0]) 2 16 Try.underlying132 hi hz0 hz1 hz2 rfl (by decide) v n (cs.map (Value.int .i64)) hs (hown.alloc _) ⟨wr.heap.size, 0, none⟩ 1 1 [.int .i64 l, .int .i64 r] hx rfl (cell_two_new _ _ _ _) (two_one _ _) (by unfold maxLen; omega) (by omega) (by simp; omega) ?_
  intro v' w' ho2 hg _ hat
  refine h v' w' ?_ (grown_alloc_set hg) (by simpa using hat)
  unfold OwnV
  rw [List.map_append]
  exact ho2

theorem allArcs_any (a : Option Addr) (xs : List Int) (cap : Nat) (w : World) (hx : Rd w a xs) (hl : xs.length ≤ 24) :
    Calls Try.prog 125 #[.slice a xs.length cap] w fun e w' => ∃ a' cap', e = .returned (.slice a' (acN xs xs.length) cap') ∧ OwnV w' w.heap.size (.slice a' (acN xs xs.length) cap') (acN xs xs.length) (acV xs xs.length) ∧ Below w.heap.size w w' := by
  obtain ⟨i0, hi, hz0, hz1, hz2⟩ := info_parts infoIv
  have hd : Int.tdiv (xs.length : Int) 2 = ((xs.length / 2 : Nat) : Int) := by rw [Int.tdiv_eq_ediv_of_nonneg (by omega)]; omega
  go_enter Try.func125, Try.ntmps125
  go_wp2_with (at_make; refine wpList_make_own _ rfl _ (.tmp 7) 132 rfl w.heap.size 135 i0 (.agg #[.int .i64 0, .int .i64 0]) 2 Try.underlying132 hi hz0 hz1 .i64 .i64 _ (xs.length / 2) rfl rfl (by omega) (by rw [hz2]; omega) (by unfold maxLen; omega) (Nat.le_refl _) ?_; intro w1 hown hgrow)
  have hown0 : OwnV w1 w.heap.size (.slice (some ⟨w.heap.size, 0, none⟩) 0 (xs.length / 2)) 0 [] := hown
  have b1 : Below w.heap.size w w1 := (Below.refl _ _).grown hgrow (Nat.le_refl _) (fun k h => by cases h)
  clear hown hgrow hd
  go_wp2_with fail
  go_loopw [3, 11] (fun v i wr => ∃ k : Nat, k ≤ xs.length ∧ i = .int .i64 k ∧ OwnV wr w.heap.size v (acN xs k) (acV xs k) ∧ Below w.heap.size w wr) (fun _ i _ => xs.length - (intOf i).toNat)
  case atStart => exact ⟨0, Nat.zero_le _, rfl, hown0, b1⟩
  case round =>
    clear hown0 b1
    obtain ⟨k, hk, rfl, hown, hb⟩ := hrel
    have hnl := acN_le xs k
    have hbs := hb.size
    by_cases hlt : k < xs.length
    · have hxr := hx.below hb
      obtain ⟨b, off, rfl, hbl, hc⟩ := hxr.cell k hlt
      cases h1 : opB xs k
      · have HN : Hid (acN xs (k+1) = acN xs k ∧ acV xs (k+1) = acV xs k) := by
          constructor
          · rw [acN, if_neg (by simp [h1])]
          · rw [acV, if_neg (by simp [h1])]
        have H1 := Lib.hid h1
        clear h1
        go_wp2_with fail
        refine (isOpener_any _ xs _ _ k _ hxr hlt rfl).mono ?_
        rw [H1.out]
        rintro e w2 ⟨rfl, rfl⟩
        go_wp2_with fail
        go_roundw
        case rel => exact ⟨k + 1, by omega, by go_num, by rw [HN.out.1, HN.out.2]; exact hown, hb⟩
        case measure => simp [intOf]; omega
      · have HN : Hid (acN xs (k+1) = acN xs k + 1 ∧ acV xs (k+1) = acV xs k ++ [(k : Int), nth xs k]) := by
          constructor
          · rw [acN, if_pos h1]
          · rw [acV, if_pos h1]
        obtain ⟨cs, hcs⟩ : ∃ cs, cs = acV xs k := ⟨_, rfl⟩
        obtain ⟨m, hm⟩ : ∃ m, m = acN xs k := ⟨_, rfl⟩
        rw [← hcs, ← hm] at hown HN
        rw [← hm] at hnl
        have H1 := Lib.hid h1
        clear hcs hm h1
        go_wp2_with fail
        refine (isOpener_any _ xs _ _ k _ hxr hlt rfl).mono ?_
        rw [H1.out]
        rintro e w2 ⟨rfl, rfl⟩
        go_wp2_with (at_builtin; refine push_iv rfl _ _ rfl rfl rfl hown rfl (by omega) hbs ?_; intro v3 w3 o3 hg _; have b3 := hb.trans (below_of_grown hg (fun c e => (hown.lt c e).1) hbs); clear hg hown)
        go_roundw
        case rel => exact ⟨k + 1, by omega, by go_num, by rw [HN.out.1, HN.out.2]; exact o3, b3⟩
        case measure => simp [intOf]; omega
    · obtain rfl : k = xs.length := by omega
      obtain ⟨a', cap', rfl⟩ := hown.form
      go_wp2_with fail
      go_ret
      exact ⟨a', cap', rfl, hown, hb⟩

set_option maxRecDepth 100000 in
theorem iMxMt_any (a : Option Addr) (xs : List Int) (cap : Nat) (w : World) (hx : Rd w a xs) :
    Calls Try.prog 60 #[.slice a xs.length cap] w fun e w' => ∃ a0 c0 vl, e = .returned (.tuple #[.agg #[.slice a0 (mtmL xs).length c0], .bool (mcB xs)]) ∧ RowsP w' w.heap.size (.slice a0 (mtmL xs).length c0) vl (mtmL xs) ∧ Below w.heap.size w w' := by
  have hlen := hx.len
  have hV := Var1.new w (.slice none 0 0) 62
  have bw0 : Below w.heap.size w (w.alloc (.cells #[.slice none 0 0] 62)) := (by repeat (first | exact Below.refl _ _ | assumption | refine Below.alloc ?_ (by first | exact Nat.le_refl _ | (simp only [World.size_alloc, World.size_setCell, World.size_drew]; omega) | omega) _ | refine Below.setCell ?_ (by first | exact Nat.le_refl _ | (simp only [World.size_alloc, World.size_setCell, World.size_drew]; omega) | omega) _ | refine Below.drew ?_))
  have hx0 := hx.below bw0
  have HRL := rlL_len xs
  have HRC := Lib.hid (fun W (hr : Rd W a xs) => iRuns_any a xs cap W hr)
  cases hm : mcB xs
  · have H1 : Hid (mtmL xs = []) := by simp [Hid, mtmL, hm]
    rw [hm] at HRC
    clear hm
    go_enter Try.func60, Try.ntmps60
    go_wp2_with fail
    refine (HRC.out _ hx0).mono ?_
    rintro e w1 ⟨a1, c1, rfl, o1, hb⟩
    have b1 := bw0.trans (hb.mono bw0.size)
    have hV1 := hV.below hb
    have ⟨⟨zV, cV⟩, fV⟩ := hV1
    clear hb hV o1
    go_wp2_with fail
    have hV2 := hV1.set (.slice none 0 0)
    have b2 := b1.setCell (p := ⟨w.heap.size, 0, none⟩) (Nat.le_refl _) (.slice none 0 0)
    refine bodyPost_ret (v := .tuple #[.agg #[.slice none 0 0], .bool false]) (by have ⟨⟨_, q1⟩, _⟩ := hV2; simp [results, Try.results60, go_sem, q1]) rfl ?_
    exact ⟨none, 0, [], by rw [H1.out]; rfl, by rw [H1.out]; exact RowsP.nil _ _, b2⟩
  · have h24 := mcB_len hm
    have hD := mtD_le hm
    have hR2 := (mtD_two hm).1
    have hrl : (rlL xs).length = 2 * mtD xs := by rw [rlL, if_pos hm, hR2]
    have HOK := Lib.hid (mt_ok hm)
    have hM := acN_le xs xs.length
    have H1 : Hid (mtmL xs = sqM (mtI xs (acN xs xs.length)) (mtD xs) (mtD xs)) := by simp [Hid, mtmL, hm]
    have HAR := Lib.hid (fun W (hr : Rd W a xs) => allArcs_any a xs cap W hr h24)
    have HAL := Lib.hid (acV_len xs xs.length)
    have HB := Lib.hid hm
    unfold GotI at HRC
    rw [hm] at HRC
    rw [hrl] at HRC
    have HST : Hid (∀ T, T < acN xs xs.length → _) := fun T hT => mt_set (xs := xs) (T := T) (HOK.out T hT).2.2.2.2.1 (HOK.out T hT).2.2.2.2.2
    have HOK2 : Hid (∀ t, t < acN xs xs.length → lft (acV xs xs.length) t = (lkN xs t : Int) ∧ rgt (acV xs xs.length) t = (rkN xs t : Int) ∧ lkN xs t < xs.length ∧ rkN xs t < xs.length ∧ rnN xs (lkN xs t) / 2 < mtD xs ∧ rnN xs (rkN xs t) / 2 < mtD xs) := HOK.out
    obtain ⟨D, hDD⟩ : ∃ D, D = mtD xs := ⟨_, rfl⟩
    obtain ⟨M, hMM⟩ : ∃ M, M = acN xs xs.length := ⟨_, rfl⟩
    obtain ⟨cs, hcs⟩ : ∃ M, M = acV xs xs.length := ⟨_, rfl⟩
    rw [← hDD] at hD HRC H1 HOK2 HST
    rw [← hMM] at hM H1 HAR HAL HOK2 HST
    rw [← hcs] at HAR HAL HOK2
    have hd : Int.tdiv ((2 * D : Nat) : Int) 2 = (D : Int) := by rw [Int.tdiv_eq_ediv_of_nonneg (by omega)]; omega
    clear hm hR2 hrl HOK hDD hMM hcs HRL
    go_enter Try.func60, Try.ntmps60
    go_wp2_with fail
    refine (HRC.out _ hx0).mono ?_
    rintro e w1 ⟨a1, c1, rfl, o1, hb⟩
    have b1 := bw0.trans (hb.mono bw0.size)
    have hV1 := hV.below hb
    clear hb hV o1 bw0 hx0
    go_wp2_with fail
    refine (zeroRows_any D _ (by omega)).mono ?_
    rintro e w2 ⟨g, vl, rfl, hro, hb2⟩
    have b2 := b1.trans (hb2.mono b1.size)
    have hV2 := hV1.below hb2
    rw [← mtI_zero xs] at hro
    go_wp2_with fail
    refine (runNumbers_any _ _ _ _ (hx.below b2) h24).mono ?_
    rintro e w3 ⟨a3, c3, rfl, o3, hb3⟩
    have b3 := b2.trans (hb3.mono b2.size)
    have hV3 := hV2.below hb3
    have hro3 := hro.below hb3 (Nat.le_refl _)
    have hr3 := o3.rd
    go_wp2_with fail
    refine (HAR.out _ (hx.below b3)).mono ?_
    rintro e w4 ⟨a4, c4, rfl, o4, hb4⟩
    have b4 := b3.trans (hb4.mono b3.size)
    have hV4 := hV3.below hb4
    have hro4 := hro3.below hb4 (Nat.le_refl _)
    have hr4 := hr3.below hb4
    have o34 := o3.below hb4 (Nat.le_refl _)
    have hcr := (hro.cut (Nat.le_refl _)).2
    have hz12 := hb2.size
    have hz23 := hb3.size
    have hz34 := hb4.size
    have bw := b1
    have b14 : Below w1.heap.size w1 w4 := (hb2.trans (hb3.mono hz12)).trans (hb4.mono (by omega))
    have hz1 := b1.size
    clear hb2 hb3 hb4 hV2 hV3 hro hro3 hr3 hr4 o3 b2 b3 b4 b1
    go_wp2_with fail
    go_loopw [27] (fun i wr => ∃ T : Nat, T ≤ M ∧ i = .int .i64 T ∧ RowsP wr w1.heap.size (.slice (some ⟨g, 0, none⟩) D D) vl (sqM (mtI xs T) D D) ∧ OwnI wr w2.heap.size (.slice a3 xs.length c3) (fmap (rnF xs) xs.length) ∧ OwnV wr w3.heap.size (.slice a4 M c4) M cs ∧ Below w1.heap.size w1 wr) (fun i _ => M - (intOf i).toNat)
    case atStart => exact ⟨0, Nat.zero_le _, rfl, hro4, o34, o4, b14⟩
    case round =>
      clear hro4 o34 o4 b14 hV4
      obtain ⟨T, hT, rfl, hro, o3, o4, hb⟩ := hrel
      have hbs := hb.size
      by_cases hlt : T < M
      · have ⟨k1, k2, k3, k4, k5, k6⟩ := HOK2.out T hlt
        obtain ⟨b, off, rfl, hbl, hd1, hd2⟩ := (o4.rd (by omega)).pair HAL.out hlt
        rw [k1] at hd1
        rw [k2] at hd2
        have bA : Below wr.heap.size wr (wr.alloc (.cells #[.int .i64 (lkN xs T), .int .i64 (rkN xs T)] 135)) := (Below.refl _ _).alloc (Nat.le_refl _) _
        have hro1 := hro.below bA (Nat.le_refl _)
        have o31 := o3.alloc (.cells #[.int .i64 (lkN xs T), .int .i64 (rkN xs T)] 135)
        have o41 := o4.alloc (.cells #[.int .i64 (lkN xs T), .int .i64 (rkN xs T)] 135)
        have b31 := hb.alloc hbs (.cells #[.int .i64 (lkN xs T), .int .i64 (rkN xs T)] 135)
        have hfl : (fmap (rnF xs) xs.length).length = xs.length := fmap_len _ _
        obtain ⟨b3, off3, e3, hbl3, hc3⟩ := o31.rd.cell (lkN xs T) (by omega)
        obtain ⟨b3', off3', e3', hbl3', hc3'⟩ := o31.rd.cell (rkN xs T) (by omega)
        rw [e3] at e3'
        simp only [Option.some.injEq, Addr.mk.injEq, and_true] at e3'
        obtain ⟨rfl, rfl⟩ := e3'
        rw [fmap_nth _ k3, rnF] at hc3
        rw [fmap_nth _ k4, rnF] at hc3'
        have HSET := Lib.hid (HST.out T hlt)
        have hsl : (sqM (mtI xs T) D D).length = D := sqM_len _ _ _
        obtain ⟨gq, eq, hq0, hq1, hq2, hq3⟩ := hro1.outer (k := rnN xs (lkN xs T) / 2) (by rw [hsl]; exact k5)
        simp only [Option.some.injEq, Addr.mk.injEq, and_true] at eq
        obtain rfl := eq
        obtain ⟨gr, cr, er, hg0, hg1, hcr', hfr, hnew⟩ := hro1.num (i := rnN xs (lkN xs T) / 2) (j := rnN xs (rkN xs T) / 2) (by rw [hsl]; exact k5) (by rw [sqM_rlen k5]; exact k6)
        rw [sqM_rlen k5] at er
        rw [sqM_at k5 k6] at hcr'
        have hgr := hcr _ (by rw [sqM_len]; exact k5) gr (by rw [er]; rfl)
        rw [er] at hq2
        have hn1 := hnew (mtI xs T (rnN xs (lkN xs T) / 2) (rnN xs (rkN xs T) / 2) + 1)
        rw [HSET.out] at hn1
        have hv1 := mtE_le xs T (rnN xs (lkN xs T) / 2) (rnN xs (rkN xs T) / 2)
        have hv : 0 ≤ mtI xs T (rnN xs (lkN xs T) / 2) (rnN xs (rkN xs T) / 2) ∧ mtI xs T (rnN xs (lkN xs T) / 2) (rnN xs (rkN xs T) / 2) ≤ 24 := by unfold mtI; omega
        have hp1 := rnN_le xs (lkN xs T)
        have hp2 := rnN_le xs (rkN xs T)
        have hi1 : Int.tdiv (rnN xs (lkN xs T) : Int) 2 = ((rnN xs (lkN xs T) / 2 : Nat) : Int) := by rw [Int.tdiv_eq_ediv_of_nonneg (by omega)]; omega
        have hi2 : Int.tdiv (rnN xs (rkN xs T) : Int) 2 = ((rnN xs (rkN xs T) / 2 : Nat) : Int) := by rw [Int.tdiv_eq_ediv_of_nonneg (by omega)]; omega
        obtain ⟨lk, hlk⟩ : ∃ x, x = lkN xs T := ⟨_, rfl⟩
        obtain ⟨rk, hrk⟩ : ∃ x, x = rkN xs T := ⟨_, rfl⟩
        obtain ⟨p1, hp1'⟩ : ∃ x, x = rnN xs (lkN xs T) := ⟨_, rfl⟩
        obtain ⟨p2, hp2'⟩ : ∃ x, x = rnN xs (rkN xs T) := ⟨_, rfl⟩
        rw [← hp1', ← hp2'] at hv
        rw [← hp1'] at hp1 hi1 k5 hc3 hq2 hq3 hcr' hn1
        rw [← hp2'] at hp2 hi2 k6 hc3' hcr' hfr hn1
        obtain ⟨q1, hq1'⟩ : ∃ x, x = p1 / 2 := ⟨_, rfl⟩
        obtain ⟨q2, hq2'⟩ : ∃ x, x = p2 / 2 := ⟨_, rfl⟩
        rw [← hq1'] at hi1 k5 hq2 hq3 hcr' hn1 hv
        rw [← hq2'] at hi2 k6 hcr' hfr hn1 hv
        rw [← hlk] at hd1 hp1 k3 hc3 hq2 hq3 hcr' hfr hn1 o31 o41 b31 hc3'
        rw [← hrk] at hd2 hp2 k4 hc3 hc3' hq2 hq3 hcr' hfr hn1 o31 o41 b31
        obtain ⟨V, hVV⟩ : ∃ x, x = mtI xs T q1 q2 := ⟨_, rfl⟩
        rw [← hVV] at hcr' hn1 hv
        have o32 := o31.setBelow (p := ⟨gr, q2, none⟩) hgr.2 (.int .i64 (V + 1))
        have o42 : OwnV _ w3.heap.size (.slice (some ⟨b, off, none⟩) M c4) M cs := ownsRow_setCell_below o41 (show (⟨gr, q2, none⟩ : Addr).block < w3.heap.size by have := hgr.2; show gr < _; omega) (.int .i64 (V + 1))
        have b32 := b31.setCell (p := ⟨gr, q2, none⟩) hgr.1 (.int .i64 (V + 1))
        have HF := Lib.hid (And.intro hn1 (And.intro o32 (And.intro o42 b32)))
        have ⟨hv0, hv24⟩ := hv
        have z1 : p1 ≤ 24 := by omega
        have z2 : p2 ≤ 24 := by omega
        clear hro o3 o4 hro1 o31 o41 b31 hn1 o32 o42 b32 hnew hVV hlk hrk hp1' hp2' hq1' hq2' hv hv1 er hgr k1 k2 hp1 hp2 HST
        go_wp2_with fail
        go_region
        all_goals
          go_wp2_with fail
          go_roundw
          case rel =>
            first
              | exact ⟨T + 1, by omega, by go_num, HF.out.1, HF.out.2.1, HF.out.2.2.1, HF.out.2.2.2⟩
              | exact ⟨T + 1, by omega, by go_num, HF.out.1.below (Below.refl _ _).drew (Nat.le_refl _), HF.out.2.1.below (Below.refl _ _).drew (Nat.le_refl _), HF.out.2.2.1.below (Below.refl _ _).drew (Nat.le_refl _), HF.out.2.2.2.drew⟩
          case measure => simp [intOf]; omega
      · obtain rfl : T = M := by omega
        have hV4 := hV1.below hb
        have ⟨⟨zV, cV⟩, fV⟩ := hV4
        go_wp2_with fail
        have hV2 := hV4.set (.slice (some ⟨g, 0, none⟩) D D)
        have b2 := (bw.trans (hb.mono hz1)).setCell (p := ⟨w.heap.size, 0, none⟩) (Nat.le_refl _) (.slice (some ⟨g, 0, none⟩) D D)
        refine bodyPost_ret (v := .tuple #[.agg #[.slice (some ⟨g, 0, none⟩) D D], .bool true]) (by have ⟨⟨_, q1⟩, _⟩ := hV2; simp [results, Try.results60, go_sem, q1]) rfl ?_
        exact ⟨some ⟨g, 0, none⟩, D, vl, by rw [H1.out, sqM_len], by rw [H1.out, sqM_len]; exact (hro.setBelow (show w.heap.size < w1.heap.size from hV1.1.1) _).mono hz1, b2⟩

def rsL (xss : List (List Int)) : List Int := if mxB xss then fmap (fun k => totR (rowL xss k)) xss.length else []
def csL (xss : List (List Int)) : List Int := if mxB xss then fmap (fun k => totR (colL xss k)) xss.length else []
theorem rsL_len (xss : List (List Int)) : (rsL xss).length ≤ 1048576 := by
  unfold rsL
  split
  · rename_i h
    have := mxB_small h
    rw [fmap_len]; omega
  · simp
theorem csL_len (xss : List (List Int)) : (csL xss).length ≤ 1048576 := by
  unfold csL
  split
  · rename_i h
    have := mxB_small h
    rw [fmap_len]; omega
  · simp

theorem SumP.vn {w : World} {B n c : Nat} {a : Option Addr} {vl : List Value} {xss : List (List Int)} (h : SumP w B (.slice a n c) vl xss) : n = xss.length := by
  obtain ⟨a2, c2, e⟩ := h.form
  simp only [Value.slice.injEq] at e
  exact e.2.1

set_option maxRecDepth 100000 in
theorem sumsOf_any (s : Int) (va : Option Addr) (vc B : Nat) (vl : List Value) (xss : List (List Int)) (w : World) (hp : SumP w B (.slice va xss.length vc) vl xss) (h63 : xss.length ≤ 1048576) :
    Calls Try.prog 117 #[.agg #[.int .i64 s, .slice va xss.length vc]] w fun e w' => ∃ g, e = .returned (.slice (some ⟨g, 0, none⟩) xss.length xss.length) ∧ OwnI w' w.heap.size (.slice (some ⟨g, 0, none⟩) xss.length xss.length) (fmap (fun k => totR (rowL xss k)) xss.length) ∧ Below w.heap.size w w' := by
  obtain ⟨i0, hi, hz0, hz1, hz2⟩ := info_parts infoInt
  have HP := Lib.hid hp
  clear hp
  obtain ⟨N, hN⟩ : ∃ N, N = xss.length := ⟨_, rfl⟩
  have HN := Lib.hid hN
  rw [← hN] at h63 ⊢
  have HP2 : Hid (SumP w B (.slice va N vc) vl xss) := by rw [hN]; exact HP.out
  obtain ⟨F, hF⟩ : ∃ F, F = fun k => totR (rowL xss k) := ⟨_, rfl⟩
  have HF : Hid (∀ k, totR (rowL xss k) = F k) := fun k => by rw [hF]
  rw [← hF]
  clear hN hF HP
  go_enter Try.func117, Try.ntmps117
  go_wp2_with (
    at_make
    refine wpList_make_full _ rfl (.tmp 8) (.tmp 8) 24 rfl (w.heap.size + 1) 3 i0 (.int .i64 0) 1 Try.underlying24 hi hz0 hz1 .i64 .i64 _ _ N rfl rfl rfl rfl (by rw [hz2]; omega) (by unfold maxLen; omega) (by simp) ?_
    intro w1 hown hgrow
    have bw1 : Below w.heap.size w w1 := Below.trans (B := w.heap.size) ((Below.refl _ _).alloc (Nat.le_refl _) _) (below_grown_none hgrow (by simp))
    have hc1 : w1.cell? ⟨w.heap.size, 1, none⟩ = some (.slice va N vc) := hgrow.cell (by simp) (by simp)
    have hz1' : w.heap.size + 1 < w1.heap.size := by
      have := (World.ownsRow.lt hown (w.heap.size + 1) (by simp [Value.ownBlock])).2
      omega
    have HO0 := Lib.hid (made_ints F hown))
  go_loopw [13] (fun i wr => ∃ k : Nat, k ≤ N ∧ i = .int .i64 k ∧ wr.ownsRow (w.heap.size + 1) 3 1 (.slice (some ⟨w.heap.size + 1, 0, none⟩) N N) N ((fmap F k ++ List.replicate (N - k) (0:Int)).map (Value.int .i64)) ∧ Below w.heap.size w wr ∧ w.heap.size + 1 < wr.heap.size) (fun i _ => N - (intOf i).toNat)
  case atStart => exact ⟨0, Nat.zero_le _, rfl, by simpa using HO0.out, bw1, hz1'⟩
  case round =>
    obtain ⟨k, hk, rfl, hown2, hb, hgz⟩ := hrel
    have hbs := hb.size
    by_cases hlt : k < N
    · have k1 : (k : Int) < (N : Int) := by omega
      have hpr := HP2.out.below hb (Nat.le_refl _)
      obtain ⟨g0, rfl, hg0, hcA, hcB⟩ := hpr.at (k := k) (by rw [← HN.out]; exact hlt)
      obtain ⟨ar, cr, er⟩ := (hpr.row k (by rw [← HN.out]; exact hlt)).form
      rw [er] at hcB
      rw [HF.out k] at hcA
      have hst := (World.ownsRow.stored hown2 k (.int .i64 (F k))).1
      rw [fill_step F N k hlt] at hst
      have hst := ownsRow_bel hst (w' := (wr.setCell ⟨w.heap.size + 1, k, none⟩ (.int .i64 (F k))).alloc (.cells #[.int .i64 (F k), .slice ar (rowL xss k).length cr] 161)) ((Below.refl _ _).alloc (Nat.le_refl _) _) (Nat.le_refl _)
      have hcc := World.ownsRow.cellAt hown2 k (by omega)
      have hfr := World.ownsRow.frozenAt hown2 k
      have hcc' : ∃ u, wr.cell? ⟨w.heap.size + 1, k, none⟩ = some u := by
        rw [hcc]
        exact ⟨_, List.getElem?_eq_getElem (by simp [fmap_len]; omega)⟩
      obtain ⟨u, hu⟩ := hcc'
      have Hst := Lib.hid hst
      have b3 : Below w.heap.size w ((wr.setCell ⟨w.heap.size + 1, k, none⟩ (.int .i64 (F k))).alloc (.cells #[.int .i64 (F k), .slice ar (rowL xss k).length cr] 161)) := (hb.setCell (by simp) _).alloc (by simpa using hbs) _
      clear hst hcc hown2 hpr er
      go_wp2_with fail
      go_roundw
      case rel => exact ⟨k + 1, by omega, by go_num, Hst.out, b3, by simp; omega⟩
      case measure => simp [intOf]; omega
    · obtain rfl : k = N := by omega
      rw [fill_end] at hown2
      have HO := Lib.hid hown2
      clear hown2
      go_wp2_with fail
      go_ret
      refine ⟨w.heap.size + 1, rfl, ?_, hb⟩
      have h : OwnI wr (w.heap.size + 1) (.slice (some ⟨w.heap.size + 1, 0, none⟩) k k) (fmap F k) := by
        unfold OwnI
        rw [fmap_len]
        exact HO.out
      exact h.mono (by omega)

theorem fmap_cols {xss : List (List Int)} : fmap (fun k => totR (rowL (colsL xss) k)) xss.length = fmap (fun k => totR (colL xss k)) xss.length :=
  fmap_ext (fun k hk => by rw [colsL_row hk])
set_option maxRecDepth 100000 in
set_option maxHeartbeats 1000000 in
theorem iRowSums_any (a : Option Addr) (xss : List (List Int)) (cap : Nat) (w : World) (hx : RdC w a xss) (hs : xss.length + totS xss xss.length ≤ 1048576) :
    Calls Try.prog 52 #[.agg #[.slice a xss.length cap]] w fun e w' => ∃ a0 c0 a1 c1, e = .returned (.tuple #[.slice a0 (rsL xss).length c0, .slice a1 (csL xss).length c1, .bool (mxB xss)]) ∧ OwnI w' w.heap.size (.slice a0 (rsL xss).length c0) (rsL xss) ∧ OwnI w' w.heap.size (.slice a1 (csL xss).length c1) (csL xss) ∧ SepV (.slice a0 (rsL xss).length c0) (.slice a1 (csL xss).length c1) ∧ Below w.heap.size w w' := by
  have hlen := hx.rd.len
  have HCL := Lib.hid (fun W (h : RdC W a xss) => rowsOf_any a xss cap W h hs)
  cases hm : mxB xss
  · have HM := Lib.hid hm
    have H1 : Hid (rsL xss = []) := by simp [Hid, rsL, hm]
    have H2 : Hid (csL xss = []) := by simp [Hid, csL, hm]
    clear hm
    go_enter Try.func52, Try.ntmps52
    go_wp2_with fail
    refine (HCL.out _ (hx.below (by repeat (first | exact Below.refl _ _ | assumption | refine Below.alloc ?_ (by first | exact Nat.le_refl _ | (simp only [World.size_alloc, World.size_setCell, World.size_drew]; omega) | omega) _ | refine Below.setCell ?_ (by first | exact Nat.le_refl _ | (simp only [World.size_alloc, World.size_setCell, World.size_drew]; omega) | omega) _ | refine Below.drew ?_)))).mono ?_
    rintro e w1 ⟨s, va, vn, vc, rfl, _, hb⟩
    rw [HM.out]
    have b1 : Below w.heap.size w w1 := Below.trans (by repeat (first | exact Below.refl _ _ | assumption | refine Below.alloc ?_ (by first | exact Nat.le_refl _ | (simp only [World.size_alloc, World.size_setCell, World.size_drew]; omega) | omega) _ | refine Below.setCell ?_ (by first | exact Nat.le_refl _ | (simp only [World.size_alloc, World.size_setCell, World.size_drew]; omega) | omega) _ | refine Below.drew ?_)) (hb.mono (by first | (simp only [World.size_alloc, World.size_setCell, World.size_drew]; omega) | omega))
    clear hb
    go_wp2_with fail
    refine bodyPost_ret (v := .tuple #[.slice none 0 0, .slice none 0 0, .bool false]) (by simp [results, Try.results52, go_sem]) rfl ?_
    exact ⟨none, 0, none, 0, by rw [H1.out, H2.out]; rfl, by rw [H1.out]; exact OwnI.nil _ _, by rw [H2.out]; exact OwnI.nil _ _, (fun c e => by cases e), b1.alloc b1.size _⟩
  · have HM := Lib.hid hm
    have h12 := mxB_small hm
    have HCO : Hid (adB (colsL xss) = true) := (mxB_iff.1 hm).2.2
    have HLL : Hid (∀ k, k < xss.length → (rowL xss k).length = xss.length) := fun k hk => mxB_len hm hk
    have H1 : Hid (rsL xss = fmap (fun k => totR (rowL xss k)) xss.length) := by rw [Hid, rsL, if_pos hm]
    have H2 : Hid (csL xss = fmap (fun k => totR (colL xss k)) xss.length) := by rw [Hid, csL, if_pos hm]
    have HX := Lib.hid hx
    clear hm hx
    go_enter Try.func52, Try.ntmps52
    go_wp2_with fail
    refine (HCL.out _ (HX.out.below (by repeat (first | exact Below.refl _ _ | assumption | refine Below.alloc ?_ (by first | exact Nat.le_refl _ | (simp only [World.size_alloc, World.size_setCell, World.size_drew]; omega) | omega) _ | refine Below.setCell ?_ (by first | exact Nat.le_refl _ | (simp only [World.size_alloc, World.size_setCell, World.size_drew]; omega) | omega) _ | refine Below.drew ?_)))).mono ?_
    rintro e w1 ⟨s, va, vn, vc, rfl, hok, hb⟩
    rw [HM.out]
    obtain ⟨vl, hp⟩ := (hok HM.out).2
    obtain rfl := hp.vn
    have b1 : Below w.heap.size w w1 := Below.trans (by repeat (first | exact Below.refl _ _ | assumption | refine Below.alloc ?_ (by first | exact Nat.le_refl _ | (simp only [World.size_alloc, World.size_setCell, World.size_drew]; omega) | omega) _ | refine Below.setCell ?_ (by first | exact Nat.le_refl _ | (simp only [World.size_alloc, World.size_setCell, World.size_drew]; omega) | omega) _ | refine Below.drew ?_)) (hb.mono (by first | (simp only [World.size_alloc, World.size_setCell, World.size_drew]; omega) | omega))
    have hc1 := (hb.cell (p := ⟨w.heap.size, 0, none⟩) (by simp)).trans (show _ = some (Value.slice a xss.length cap) by simp)
    have hz1 : w.heap.size + 1 ≤ w1.heap.size := by have := hb.size; simp at this; omega
    have HP := Lib.hid hp
    clear hb hok hp
    have hA2 := Box2.new w1 (.int .i64 s) (.slice va xss.length vc) 120
    have bb2 : Below w1.heap.size w1 (w1.alloc (.cells #[.int .i64 s, .slice va xss.length vc] 120)) := (by repeat (first | exact Below.refl _ _ | assumption | refine Below.alloc ?_ (by first | exact Nat.le_refl _ | (simp only [World.size_alloc, World.size_setCell, World.size_drew]; omega) | omega) _ | refine Below.setCell ?_ (by first | exact Nat.le_refl _ | (simp only [World.size_alloc, World.size_setCell, World.size_drew]; omega) | omega) _ | refine Below.drew ?_))
    have c2 := (bb2.cell (p := ⟨w.heap.size, 0, none⟩) (show w.heap.size < w1.heap.size by omega)).trans hc1
    have b2 := b1.trans (bb2.mono b1.size)
    go_wp2_with fail
    refine (columnsOf_any a xss cap _ (HX.out.below b2).rd h12 HLL.out).mono ?_
    rintro e w4 ⟨g, vlc, rfl, hro, hb4⟩
    have hA4 := hA2.below hb4
    have b4 := b2.trans (hb4.mono b2.size)
    have bb4 : Below w1.heap.size w1 w4 := bb2.trans (hb4.mono (by simp))
    have hAU := iAddUp_any (some ⟨g, 0, none⟩) (colsL xss) xss.length w4 hro.o.rd (by rw [colsL_sq]; exact sq_small (by omega))
    rw [colsL_len, HCO.out] at hAU
    have HAU := Lib.hid hAU
    have hs4 : w1.heap.size + 1 ≤ w4.heap.size := by have := hb4.size; simp at this; omega
    clear hb4 hro hAU
    go_wp2_with fail
    refine HAU.out.mono ?_
    rintro e w5 ⟨s5, va5, vn5, vc5, rfl, hok5, hb5⟩
    obtain ⟨vl5, hp5⟩ := (hok5 (by first | rfl | trivial)).2
    have hvn5 := hp5.vn
    rw [colsL_len] at hvn5
    subst hvn5
    have hA5 := hA4.below hb5
    have b5 := b4.trans (hb5.mono b4.size)
    have bb5 : Below w1.heap.size w1 w5 := bb4.trans (hb5.mono (by omega))
    have HP5 := Lib.hid (HP.out.below bb5 (Nat.le_refl _))
    have HQ5 := Lib.hid hp5
    have hs5 : w4.heap.size ≤ w5.heap.size := hb5.size
    clear hb5 hok5 hp5 HP
    obtain ⟨W6, hW6⟩ : ∃ x : World, x = w5.alloc (.cells #[.int .i64 s5, .slice va5 xss.length vc5] 120) := ⟨_, rfl⟩
    have HW6 := Lib.hid hW6
    have bb6 : Below w5.heap.size w5 W6 := by rw [hW6]; exact (by repeat (first | exact Below.refl _ _ | assumption | refine Below.alloc ?_ (by first | exact Nat.le_refl _ | (simp only [World.size_alloc, World.size_setCell, World.size_drew]; omega) | omega) _ | refine Below.setCell ?_ (by first | exact Nat.le_refl _ | (simp only [World.size_alloc, World.size_setCell, World.size_drew]; omega) | omega) _ | refine Below.drew ?_))
    have hB6 : Box2 W6 w5.heap.size (.int .i64 s5) (.slice va5 xss.length vc5) := by rw [hW6]; exact Box2.new _ _ _ _
    have hA6 := hA5.below bb6
    have b6 := b5.trans (bb6.mono b5.size)
    have HP6 := Lib.hid (HP5.out.below bb6 (Nat.le_refl _))
    have HQ6 := Lib.hid (HQ5.out.below bb6 (Nat.le_refl _))
    have HC1 : Hid (∀ W, Below W6.heap.size W6 W → Calls Try.prog 117 #[.agg #[.int .i64 s, .slice va xss.length vc]] W fun e w' => ∃ g, e = .returned (.slice (some ⟨g, 0, none⟩) xss.length xss.length) ∧ OwnI w' W.heap.size (.slice (some ⟨g, 0, none⟩) xss.length xss.length) (fmap (fun k => totR (rowL xss k)) xss.length) ∧ Below W.heap.size W w') := fun W hb => sumsOf_any s va vc _ vl xss W (HP6.out.below hb (Nat.le_refl _)) (by omega)
    have HC2 : Hid (∀ W, Below W6.heap.size W6 W → Calls Try.prog 117 #[.agg #[.int .i64 s5, .slice va5 xss.length vc5]] W fun e w' => ∃ g, e = .returned (.slice (some ⟨g, 0, none⟩) xss.length xss.length) ∧ OwnI w' W.heap.size (.slice (some ⟨g, 0, none⟩) xss.length xss.length) (fmap (fun k => totR (colL xss k)) xss.length) ∧ Below W.heap.size W w') := fun W hb => by
      have h := sumsOf_any s5 va5 vc5 _ vl5 (colsL xss) W (by rw [colsL_len]; exact HQ6.out.below hb (Nat.le_refl _)) (by rw [colsL_len]; omega)
      rw [colsL_len, fmap_cols] at h
      exact h
    subst hW6
    clear HAU HCL bb6 HP5 HQ5 HP6 HQ6
    go_wp2_with fail
    have ⟨zA6, cA6, dA6⟩ := hA6
    have ⟨zB6, cB6, dB6⟩ := hB6
    go_region_held3 (fun w' => w'.cell? ⟨w1.heap.size, 0, none⟩ = some (.int .i64 s) ∧ w'.cell? ⟨w1.heap.size, 1, none⟩ = some (.slice va xss.length vc) ∧ w'.cell? ⟨w5.heap.size, 0, none⟩ = some (.int .i64 s5) ∧ w'.cell? ⟨w5.heap.size, 1, none⟩ = some (.slice va5 xss.length vc5))
      (first | exact ⟨Pb.2.1, Pb.2.2, Qb.2.1, Qb.2.2⟩ | exact ⟨Pa.2.1, Pa.2.2, Qa.2.1, Qa.2.2⟩ | go_keep)
      (first | (have _g := hta; go_at_call 117; refine (HC2.out _ (by first | exact hta | exact hta.trans ((Joins.below_draws _ _ _).mono hta.size) | exact hta.drew)).mono ?_; rintro e wb ⟨g2, rfl, o2, hbb⟩; have htb := hta.trans (hbb.mono hta.size); have Pb := hA6.below htb; have Qb := hB6.below htb) | (go_at_call 117; refine (HC1.out _ (Joins.below_draws _ _ _)).mono ?_; rintro e wa ⟨g1, rfl, o1, hba⟩; have hta := (Joins.below_draws _ _ _).trans hba; have Pa := hA6.below hta; have Qa := hB6.below hta))
    all_goals
      go_wp2_with fail
      refine bodyPost_ret (v := .tuple #[.slice (some ⟨g1, 0, none⟩) xss.length xss.length, .slice (some ⟨g2, 0, none⟩) xss.length xss.length, .bool true]) (by simp [results, Try.results52, go_sem]) rfl ?_
      have hl1 := o1.lt g1 rfl
      have hl2 := o2.lt g2 rfl
      have hn : SepV (.slice (some ⟨g1, 0, none⟩) xss.length xss.length) (.slice (some ⟨g2, 0, none⟩) xss.length xss.length) := by
        intro c e1 e2
        simp only [Value.ownBlock, Option.some.injEq] at e1 e2
        omega
      have h5 : w.heap.size ≤ w5.heap.size := b5.size
      have h6 : w.heap.size ≤ wa.heap.size := by have := hta.size; simp at this; omega
      have o1b := o1.below hbb (Nat.le_refl _)
      refine ⟨_, _, _, _, by rw [H1.out, H2.out, fmap_len, fmap_len], by rw [H1.out, fmap_len]; exact o1b.mono (by first | omega | (simp; omega)), by rw [H2.out, fmap_len]; exact o2.mono (by omega), by rw [H1.out, H2.out, fmap_len, fmap_len]; exact hn, b6.trans (htb.mono b6.size)⟩

/-- a list in order, as the library sorts it -/
def srt (xs : List Int) : List Int := xs.mergeSort fun x y => decide (x ≤ y)
theorem srt_len (xs : List Int) : (srt xs).length = xs.length := List.length_mergeSort xs
theorem srt_mem (xs : List Int) (x : Int) : x ∈ srt xs ↔ x ∈ xs := List.mem_mergeSort
theorem srt_le (xs : List Int) : (srt xs).Pairwise (· ≤ ·) := by
  have h := List.pairwise_mergeSort (le := fun (x y : Int) => decide (x ≤ y)) (fun a b c h1 h2 => by simp only [decide_eq_true_eq] at *; omega) (fun a b => by simp only [Bool.or_eq_true, decide_eq_true_eq]; omega) xs
  exact h.imp (fun h => by simpa using h)



def Sh_lays112_ren : Go.Shelf.Ren := ⟨fun | 112 => 128 | n => n, fun | 28 => 24 | 3 => 3 | 4 => 4 | 0 => 0 | n => n, fun | n => n⟩
theorem Sh_lays112 : Go.Proofs.Lays.n112 Try.prog Sh_lays112_ren := {
  mixed := by kernel_rfl
  f112 := Try.func128.trans (congrArg some (by kernel_rfl))
  t0 := Try.underlying0
  a0 := Try.isAgg0
  z0 := Try.sizeOf0
  v0 := Try.zeroValue0
  t3 := Try.underlying3
  a3 := Try.isAgg3
  z3 := Try.sizeOf3
  v3 := Try.zeroValue3
  t4 := Try.underlying4
  a4 := Try.isAgg4
  z4 := Try.sizeOf4
  v4 := Try.zeroValue4
  t28 := Try.underlying24
  a28 := Try.isAgg24
  z28 := Try.sizeOf24
  v28 := Try.zeroValue24 }

open Go.RowKit Go.Lib Go.Sort in
theorem Sh_slices_Reverse_int (blk off cap : Nat) (zs : List Int) (w : World) (hH : Holds (Value.int .i64) w blk off zs.toArray) (hsz : zs.length ≤ 9223372036854775807) :
    Calls Try.prog 128 #[.slice (some ⟨blk, off, none⟩) zs.length cap] w fun e w' => e = .returned (.tuple #[]) ∧ ∃ n, w' = putRow (Value.int .i64) (Sort.ahead w n) blk off zs.reverse.toArray := Any.slices_Reverse_int Sh_lays112 blk off cap zs w hH hsz

open Go.RowKit Go.Lib Go.Sort in
theorem Sh_slices_Reverse_int_empty (a : Option Addr) (cap : Nat) (w : World) :
    Calls Try.prog 128 #[.slice a 0 cap] w fun e w' => e = .returned (.tuple #[]) ∧ w' = w := Any.slices_Reverse_int_empty Sh_lays112 a cap w

theorem revOwn (a : Option Addr) (cap : Nat) (xs : List Int) (B : Nat) (w : World) (ho : OwnI w B (.slice a xs.length cap) xs) :
    Calls Try.prog 128 #[.slice a xs.length cap] w fun e w' => e = .returned (.tuple #[]) ∧ OwnI w' B (.slice a xs.length cap) xs.reverse ∧ w.grownBy w' (Value.slice a xs.length cap).ownBlock := by
  rcases ho.2 with ⟨e0, h0⟩ | ⟨g, cap', cur, e0, hbase, hb, h1, h2, h3, h4⟩
  · have hx : xs = [] := List.length_eq_zero_iff.1 h0
    subst hx
    refine (Sh_slices_Reverse_int_empty a cap w).mono ?_
    rintro e w' ⟨rfl, rfl⟩
    exact ⟨rfl, ho, World.grownBy.refl _ _⟩
  · simp only [Value.slice.injEq] at e0
    obtain ⟨rfl, -, rfl⟩ := e0
    have hh := Go.holds_of_blockI (ss := xs) hb (by simpa using h4)
    refine (Sh_slices_Reverse_int g 0 cap xs w hh (by unfold maxLen at h2; omega)).mono ?_
    rintro e w' ⟨rfl, nn, rfl⟩
    have hg := Go.grownBy_sortedI (w := w) (g := g) (n := nn) (os := #[]) xs.reverse.toArray
    have ho := Go.ownsRow_sortedI (n := nn) (os := #[]) (ss := xs) (ts := xs.reverse) (by simp) hbase hb h1 h2 h3
    rw [Go.Sort.grow_empty] at hg ho
    refine ⟨rfl, ?_, hg⟩
    unfold OwnI
    rw [List.length_reverse]
    exact ho

/-- the first k of n rows, and rows of nil behind them -/
def nTo (xss : List (List Int)) (n k : Nat) : List (List Int) := (List.range n).map fun i => if i < k then rowL xss i else []
def nVal (vl : List Value) (n k : Nat) : List Value := (List.range n).map fun i => if i < k then valAt vl i else .slice none 0 0
theorem nVal_len (vl : List Value) (n k : Nat) : (nVal vl n k).length = n := by simp [nVal]
theorem nVal_at {vl : List Value} {n k i : Nat} (h : i < n) : valAt (nVal vl n k) i = if i < k then valAt vl i else .slice none 0 0 := by simp [valAt, nVal, List.getD_eq_getElem?_getD, h]
theorem nVal_zero (vl : List Value) (n : Nat) : nVal vl n 0 = List.replicate n (.slice none 0 0) := by
  apply List.ext_getElem?
  intro i
  by_cases h : i < n <;> simp [nVal, h]
theorem nVal_step {vl : List Value} {n k : Nat} (h : k < n) : (nVal vl n k).set k (valAt vl k) = nVal vl n (k+1) := by
  apply List.ext_getElem?
  intro i
  rw [List.getElem?_set]
  by_cases e : k = i
  · subst e
    rw [if_pos rfl, if_pos (by rw [nVal_len]; exact h), valAt_get (by rw [nVal_len]; exact h), nVal_at h, if_pos (by omega)]
  · rw [if_neg e]
    by_cases hi : i < n
    · rw [valAt_get (by rw [nVal_len]; exact hi), valAt_get (by rw [nVal_len]; exact hi), nVal_at hi, nVal_at hi]
      by_cases h2 : i < k
      · rw [if_pos h2, if_pos (by omega)]
      · rw [if_neg h2, if_neg (by omega)]
    · rw [List.getElem?_eq_none (by rw [nVal_len]; omega), List.getElem?_eq_none (by rw [nVal_len]; omega)]
theorem nVal_end {vl : List Value} {n : Nat} (h : vl.length = n) : nVal vl n n = vl := by
  apply List.ext_getElem?
  intro i
  by_cases hi : i < n
  · rw [valAt_get (by rw [nVal_len]; exact hi), valAt_get (by omega), nVal_at hi, if_pos hi]
  · rw [List.getElem?_eq_none (by rw [nVal_len]; omega), List.getElem?_eq_none (by omega)]

def revV (vl : List Value) (n k : Nat) : List Value := (List.range n).map fun i => if i < k ∨ n ≤ i + k then valAt vl (n - 1 - i) else valAt vl i
theorem revV_len (vl : List Value) (n k : Nat) : (revV vl n k).length = n := by simp [revV]
theorem revV_at {vl : List Value} {n k i : Nat} (h : i < n) : valAt (revV vl n k) i = if i < k ∨ n ≤ i + k then valAt vl (n - 1 - i) else valAt vl i := by simp [valAt, revV, List.getD_eq_getElem?_getD, h]
theorem vals_ext {vl ul : List Value} (hl : vl.length = ul.length) (h : ∀ i, i < vl.length → valAt vl i = valAt ul i) : vl = ul := by
  apply List.ext_getElem?
  intro i
  by_cases hi : i < vl.length
  · rw [valAt_get hi, valAt_get (by omega), h i hi]
  · rw [List.getElem?_eq_none (by omega), List.getElem?_eq_none (by omega)]
theorem valAt_set {vl : List Value} {k j : Nat} {u : Value} (hk : k < vl.length) : valAt (vl.set k u) j = if j = k then u else valAt vl j := by
  simp only [valAt, List.getD_eq_getElem?_getD, List.getElem?_set]
  by_cases e : k = j
  · subst e; simp [hk]
  · simp [e, Ne.symm e]
theorem revV_zero {vl : List Value} : revV vl vl.length 0 = vl :=
  vals_ext (revV_len _ _ _) (fun i hi => by rw [revV_len] at hi; rw [revV_at hi, if_neg (by omega)])
theorem revV_step {vl : List Value} {n k : Nat} (h : 2 * k + 1 < n) : ((revV vl n k).set k (valAt vl (n - 1 - k))).set (n - 1 - k) (valAt vl k) = revV vl n (k+1) := by
  refine vals_ext (by simp [revV]) (fun i hi => ?_)
  rw [List.length_set, List.length_set, revV_len] at hi
  rw [valAt_set (by rw [List.length_set, revV_len]; omega), valAt_set (by rw [revV_len]; omega), revV_at hi, revV_at hi]
  by_cases e1 : i = n - 1 - k
  · rw [if_pos e1, if_pos (by omega)]
    congr 1; omega
  · rw [if_neg e1]
    by_cases e2 : i = k
    · rw [if_pos e2, if_pos (by omega), e2]
    · rw [if_neg e2]
      by_cases e3 : i < k ∨ n ≤ i + k
      · rw [if_pos e3, if_pos (by omega)]
      · rw [if_neg e3, if_neg (by omega)]
theorem revV_end {vl : List Value} {k : Nat} (h : vl.length ≤ 2 * k + 1) : revV vl vl.length k = vl.reverse := by
  refine vals_ext (by simp [revV]) (fun i hi => ?_)
  rw [revV_len] at hi
  have hr : valAt vl.reverse i = valAt vl (vl.length - 1 - i) := by
    simp [valAt, List.getD_eq_getElem?_getD, List.getElem?_reverse hi]
  rw [revV_at hi, hr]
  split
  · rfl
  · congr 1; omega

set_option maxRecDepth 100000 in
theorem revRows_any (g n c B : Nat) (vl : List Value) (w : World) (h : w.ownsRow B 24 1 (.slice (some ⟨g, 0, none⟩) n c) n vl) (hsl : ∀ i, i < n → ∃ a m c, valAt vl i = .slice a m c) (hn : n ≤ 1048576) :
    Calls Try.prog 127 #[.slice (some ⟨g, 0, none⟩) n c] w fun e w' => e = .returned (.tuple #[]) ∧ w'.ownsRow B 24 1 (.slice (some ⟨g, 0, none⟩) n c) n vl.reverse ∧ w.grownBy w' (some g) := by
  have hl : vl.length = n := by have := h.1; omega
  have H := Lib.hid h
  have HSL := Lib.hid hsl
  have HL := Lib.hid hl
  clear h hsl hl
  go_enter Try.func127, Try.ntmps127
  go_wp2_with fail
  go_loopw [2, 3] (fun i j wr => ∃ k : Nat, 2 * k ≤ n ∧ i = .int .i64 k ∧ j = .int .i64 ((n : Int) - 1 - (k : Int)) ∧ wr.ownsRow B 24 1 (.slice (some ⟨g, 0, none⟩) n c) n (revV vl n k) ∧ w.grownBy wr (some g)) (fun i _ _ => n - (intOf i).toNat)
  case atStart => exact ⟨0, by omega, rfl, by simp, by have h := H.out; rw [← revV_zero (vl := vl), HL.out] at h; exact h, World.grownBy.refl _ _⟩
  case round =>
    obtain ⟨k, hk, rfl, rfl, hown, hg⟩ := hrel
    by_cases hlt : 2 * k + 1 < n
    · have k1 : (k : Int) < (n : Int) - 1 - (k : Int) := by omega
      have hcast : ((n : Int) - 1 - (k : Int)) = ((n - 1 - k : Nat) : Int) := by omega
      have e1 : valAt (revV vl n k) k = valAt vl k := by rw [revV_at (by omega), if_neg (by omega)]
      have e2 : valAt (revV vl n k) (n - 1 - k) = valAt vl (n - 1 - k) := by rw [revV_at (by omega), if_neg (by omega)]
      obtain ⟨a1, m1, c1, h1⟩ := HSL.out k (by omega)
      obtain ⟨a2, m2, c2, h2⟩ := HSL.out (n - 1 - k) (by omega)
      have hc1 := World.ownsRow.cellAt hown k (by omega)
      have hc2 := World.ownsRow.cellAt hown (n - 1 - k) (by omega)
      rw [valAt_get (by rw [revV_len]; omega), e1, h1] at hc1
      rw [valAt_get (by rw [revV_len]; omega), e2, h2] at hc2
      have hf1 := World.ownsRow.frozenAt hown k
      have hf2 := World.ownsRow.frozenAt hown (n - 1 - k)
      have hs1 := World.ownsRow.stored hown k (valAt vl (n - 1 - k))
      have hs2 := World.ownsRow.stored hs1.1 (n - 1 - k) (valAt vl k)
      have hkn : k < n := by omega
      have hkn2 : n - 1 - k < n := by omega
      have hne : k ≠ n - 1 - k := by omega
      rw [revV_step hlt, h1, h2] at hs2
      have HS := Lib.hid hs2
      have hzg := (World.ownsRow.lt hown g rfl).2
      rw [hcast] at k1 ⊢
      obtain ⟨J, hJ⟩ : ∃ J, J = n - 1 - k := ⟨_, rfl⟩
      have HJ := Lib.hid hJ
      have hJc : ((J : Int)) - 1 = ((n : Int) - 1 - ((k : Int) + 1)) := by omega
      rw [← hJ] at k1 hc2 hf2 HS hkn2 hne ⊢
      clear hs1 hs2 h1 h2 e1 e2 hJ hcast hlt
      go_wp2_with fail
      go_region
      all_goals
        go_wp2_with fail
        go_roundw
        case rel =>
          refine ⟨k + 1, by omega, by go_num, by first | exact val_int hJc | rfl | (rw [← hJc]; go_num), ?_, ?_⟩
          · first
            | exact HS.out.1
            | exact ownsRow_bel HS.out.1 (Below.refl _ _).drew (Nat.le_refl _)
          · have h9 := grown_trans hg ((grown_set wr ⟨g, k, none⟩ (.slice a2 m2 c2)))
            have h8 := grown_trans h9 (grown_set _ ⟨g, J, none⟩ (.slice a1 m1 c1))
            first
            | exact h8
            | exact grown_trans h8 (below_grown (Below.refl _ _).drew (Nat.le_refl _) _)
        case measure => simp [intOf]; omega
    · have k1 : ¬ (k : Int) < (n : Int) - 1 - (k : Int) := by omega
      rw [← HL.out, revV_end (by have := HL.out; omega), HL.out] at hown
      have HO := Lib.hid hown
      clear hown
      go_wp2_with fail
      refine bodyPost_end (v := .tuple #[]) (by simp [results, Try.results127, go_sem]) rfl ?_
      exact ⟨rfl, HO.out, hg⟩

theorem iIsMatrix_any (a : Option Addr) (xss : List (List Int)) (cap : Nat) (w : World) (hx : RdC w a xss) (hs : xss.length + totS xss xss.length ≤ 1048576) :
    Calls Try.prog 119 #[.agg #[.slice a xss.length cap]] w fun e w' => e = .returned (.bool (mxB xss)) ∧ Below w.heap.size w w' := by
  have hlen := hx.rd.len
  go_enter Try.func119, Try.ntmps119
  go_wp2_with fail
  refine (rowsOf_any _ _ _ _ (hx.below (by repeat (first | exact Below.refl _ _ | assumption | refine Below.alloc ?_ (by first | exact Nat.le_refl _ | (simp only [World.size_alloc, World.size_setCell, World.size_drew]; omega) | omega) _ | refine Below.setCell ?_ (by first | exact Nat.le_refl _ | (simp only [World.size_alloc, World.size_setCell, World.size_drew]; omega) | omega) _ | refine Below.drew ?_))) hs).mono ?_
  rintro e w1 ⟨s, va, vn, vc, rfl, _, hb⟩
  have b1 : Below w.heap.size w w1 := Below.trans (by repeat (first | exact Below.refl _ _ | assumption | refine Below.alloc ?_ (by first | exact Nat.le_refl _ | (simp only [World.size_alloc, World.size_setCell, World.size_drew]; omega) | omega) _ | refine Below.setCell ?_ (by first | exact Nat.le_refl _ | (simp only [World.size_alloc, World.size_setCell, World.size_drew]; omega) | omega) _ | refine Below.drew ?_)) (hb.mono (by first | (simp only [World.size_alloc, World.size_setCell, World.size_drew]; omega) | omega))
  clear hb
  go_wp2_with fail
  go_ret
  exact ⟨rfl, b1.alloc b1.size _⟩

/-- the rows that have been made in the other order -/
theorem RowsP.rev {w w' : World} {B g n c : Nat} {vl : List Value} {xss : List (List Int)} (h : RowsP w B (.slice (some ⟨g, 0, none⟩) n c) vl xss) (hn : n = xss.length) (ho : w'.ownsRow B 24 1 (.slice (some ⟨g, 0, none⟩) n c) n vl.reverse) (hg : w.grownBy w' (some g)) : RowsP w' B (.slice (some ⟨g, 0, none⟩) n c) vl.reverse xss.reverse := by
  have hl := h.o.vlen
  have hv : ∀ k, k < xss.length → valAt vl.reverse k = valAt vl (xss.length - 1 - k) := fun k hk => by
    simp [valAt, List.getD_eq_getElem?_getD, List.getElem?_reverse (show k < vl.length by omega), hl]
  have hr : ∀ k, k < xss.length → rowL xss.reverse k = rowL xss (xss.length - 1 - k) := fun k hk => by
    simp [rowL, List.getD_eq_getElem?_getD, List.getElem?_reverse hk]
  refine ⟨⟨by rw [List.length_reverse, ← hn]; exact ho, fun k hk => ?_, fun k hk c hc => ?_⟩, fun j k hjk hk c hc => ?_⟩
  · rw [List.length_reverse] at hk
    rw [hv k hk, hr k hk]
    refine (h.o.row _ (by omega)).kept hg (own_nb (fun c h1 h2 => ?_))
    exact h.o.apart _ (by omega) c h1 (by rw [h2]; rfl)
  · rw [List.length_reverse] at hk
    rw [hv k hk] at hc
    exact h.o.apart _ (by omega) c hc
  · rw [List.length_reverse] at hk
    rw [hv j (by omega)] at hc
    rw [hv k hk]
    intro h2
    exact h.pair (xss.length - 1 - k) (xss.length - 1 - j) (by omega) (by omega) c h2 hc
/-- a row of the rows has been written -/
theorem RowsP.setRow {w w' : World} {B : Nat} {v : Value} {vl : List Value} {xss : List (List Int)} (h : RowsP w B v vl xss) {k : Nat} (hk : k < xss.length) {r : List Int} (hr : OwnI w' B (valAt vl k) r) (hg : w.grownBy w' (valAt vl k).ownBlock) : RowsP w' B v vl (xss.set k r) := by
  have hrow : ∀ j, j < xss.length → rowL (xss.set k r) j = if j = k then r else rowL xss j := by
    intro j hj
    simp only [rowL, List.getD_eq_getElem?_getD, List.getElem?_set]
    by_cases e : k = j
    · subst e; simp [hk]
    · simp [e, Ne.symm e]
  refine ⟨⟨?_, fun j hj => ?_, fun j hj => ?_⟩, fun i j hij hj => ?_⟩
  · rw [List.length_set]
    exact World.ownsRow.kept h.o.own hg (own_ne (fun c h1 h2 => h.o.apart k hk c h2 h1))
  · rw [List.length_set] at hj
    rw [hrow j hj]
    split
    · rename_i e; rw [e]; exact hr
    · rename_i e
      refine (h.o.row j hj).kept hg (own_ne (fun c h1 h2 => ?_))
      rcases Nat.lt_or_gt_of_ne e with h3 | h3
      · exact h.pair j k h3 hk c h1 h2
      · exact h.pair k j h3 hj c h2 h1
  · rw [List.length_set] at hj
    exact h.o.apart j hj
  · rw [List.length_set] at hj
    exact h.pair i j hij hj
def duT (f : Nat → Nat → Int) (n k : Nat) (a b : Nat) : Int := if a < k then f a (n - 1 - b) else f a b
theorem duT_zero {f : Nat → Nat → Int} {n : Nat} : sqM f n n = sqM (duT f n 0) n n := sqM_congr (fun a ha b hb => by rw [duT, if_neg (by omega)])
theorem duT_end {f : Nat → Nat → Int} {n : Nat} : sqM (duT f n n) n n = sqM (fun a b => f a (n - 1 - b)) n n := sqM_congr (fun a ha b hb => by rw [duT, if_pos ha])
theorem fmap_rev {f : Nat → Int} {n : Nat} : (fmap f n).reverse = fmap (fun b => f (n - 1 - b)) n := by
  apply List.ext_getElem?
  intro i
  by_cases hi : i < n
  · rw [List.getElem?_reverse (by rw [fmap_len]; exact hi), fmap_len]
    simp [fmap, hi, show n - 1 - i < n by omega]
  · rw [List.getElem?_eq_none (by rw [List.length_reverse, fmap_len]; omega), List.getElem?_eq_none (by rw [fmap_len]; omega)]
theorem duT_step {f : Nat → Nat → Int} {n k : Nat} (hk : k < n) : (sqM (duT f n k) n n).set k (rowL (sqM (duT f n k) n n) k).reverse = sqM (duT f n (k+1)) n n := by
  refine rows_ext (by simp [sqM]) (fun i hi => ?_)
  rw [List.length_set, sqM_len] at hi
  have : ∀ r, rowL ((sqM (duT f n k) n n).set k r) i = if i = k then r else rowL (sqM (duT f n k) n n) i := by
    intro r
    simp only [rowL, List.getD_eq_getElem?_getD, List.getElem?_set]
    by_cases e : k = i
    · subst e; simp [sqM_len, hk]
    · simp [e, Ne.symm e]
  rw [this, sqM_row hk, sqM_row hi, sqM_row hi]
  split
  · rename_i e
    subst e
    rw [fmap_rev]
    exact fmap_ext (fun b hb => by rw [duT, duT, if_neg (by omega), if_pos (by omega)])
  · exact fmap_ext (fun b hb => by
      rw [duT, duT]
      by_cases h : i < k
      · rw [if_pos h, if_pos (by omega)]
      · rw [if_neg h, if_neg (by omega)])
theorem sqM_rev {f : Nat → Nat → Int} {n m : Nat} : (sqM f n m).reverse = sqM (fun a b => f (n - 1 - a) b) n m := by
  refine rows_ext (by simp [sqM]) (fun i hi => ?_)
  rw [List.length_reverse, sqM_len] at hi
  rw [sqM_row hi]
  have : rowL (sqM f n m).reverse i = rowL (sqM f n m) (n - 1 - i) := by
    simp [rowL, List.getD_eq_getElem?_getD, List.getElem?_reverse (show i < (sqM f n m).length by rw [sqM_len]; exact hi), sqM_len]
  rw [this, sqM_row (by omega)]
set_option maxRecDepth 100000 in
set_option maxHeartbeats 1000000 in
theorem iDual_any (a : Option Addr) (xss : List (List Int)) (cap : Nat) (w : World) (hx : RdC w a xss) (hs : xss.length + totS xss xss.length ≤ 1048576) :
    Calls Try.prog 62 #[.agg #[.slice a xss.length cap]] w fun e w' => ∃ a0 c0 vl, e = .returned (.tuple #[.agg #[.slice a0 (duL xss).length c0], .bool (mxB xss)]) ∧ RowsP w' w.heap.size (.slice a0 (duL xss).length c0) vl (duL xss) ∧ Below w.heap.size w w' := by
  have hlen := hx.rd.len
  have hV := Var1.new (w.alloc (.cells #[.slice a xss.length cap] 62)) (.slice none 0 0) 62
  have hb0 : Below w.heap.size w ((w.alloc (.cells #[.slice a xss.length cap] 62)).alloc (.cells #[.slice none 0 0] 62)) := (by repeat (first | exact Below.refl _ _ | assumption | refine Below.alloc ?_ (by first | exact Nat.le_refl _ | (simp only [World.size_alloc, World.size_setCell, World.size_drew]; omega) | omega) _ | refine Below.setCell ?_ (by first | exact Nat.le_refl _ | (simp only [World.size_alloc, World.size_setCell, World.size_drew]; omega) | omega) _ | refine Below.drew ?_))
  rw [World.size_alloc] at hV
  have HCL := Lib.hid (fun W (h : RdC W a xss) => iIsMatrix_any a xss cap W h hs)
  cases hm : mxB xss
  · have HM := Lib.hid hm
    have H1 : Hid (duL xss = []) := by simp [Hid, duL, hm]
    clear hm
    go_enter Try.func62, Try.ntmps62
    go_wp2_with fail
    refine (HCL.out _ (hx.below hb0)).mono ?_
    rintro e w1 ⟨rfl, hb⟩
    rw [HM.out]
    have b1 : Below w.heap.size w w1 := hb0.trans (hb.mono (by simp; omega))
    have hV1 := hV.below hb
    have ⟨⟨zV, cV⟩, fV⟩ := hV1
    clear hb hV
    go_wp2_with fail
    have hV2 := hV1.set (.slice none 0 0)
    have b2 := b1.setCell (p := ⟨w.heap.size + 1, 0, none⟩) (by simp) (.slice none 0 0)
    refine bodyPost_ret (v := .tuple #[.agg #[.slice none 0 0], .bool false]) (by have ⟨⟨_, q1⟩, _⟩ := hV2; simp [results, Try.results62, go_sem, q1]) rfl ?_
    exact ⟨none, 0, [], by rw [H1.out]; rfl, by rw [H1.out]; exact RowsP.nil _ _, b2⟩
  · have HM := Lib.hid hm
    have h12 := mxB_small hm
    obtain ⟨F, hF⟩ : ∃ F : Nat → Nat → Int, F = fun a b => atM xss b (xss.length - 1 - a) := ⟨_, rfl⟩
    have H1 : Hid (duL xss = sqM (fun a b => F a (xss.length - 1 - b)) xss.length xss.length) := by rw [Hid, duL, if_pos hm, hF]
    have HC : Hid ((colsL xss).reverse = sqM F xss.length xss.length) := by rw [Hid, colsL_sq, sqM_rev, hF]
    have HX := Lib.hid hx
    have HCO := Lib.hid (fun W hb => columnsOf_any a xss cap W (hx.rd.below hb) h12 (fun k hk => mxB_len hm hk))
    clear hm hF hx
    go_enter Try.func62, Try.ntmps62
    go_wp2_with fail
    refine (HCL.out _ (HX.out.below hb0)).mono ?_
    rintro e w1 ⟨rfl, hb⟩
    rw [HM.out]
    have b1 : Below w.heap.size w w1 := hb0.trans (hb.mono (by simp; omega))
    have hV1 := hV.below hb
    have hc1 := (hb.cell (p := ⟨w.heap.size, 0, none⟩) (by simp; omega)).trans (show _ = some (Value.slice a xss.length cap) by simp)
    have hz1 : w.heap.size + 2 ≤ w1.heap.size := by have := hb.size; simp at this; omega
    clear hb hV hb0 HCL
    go_wp2_with fail
    refine (HCO.out _ b1).mono ?_
    rintro e w2 ⟨g, vl, rfl, hro, hb2⟩
    have hV2 := hV1.below hb2
    have b2 := b1.trans (hb2.mono b1.size)
    have hz2 : w.heap.size + 2 ≤ w2.heap.size := by have := hb2.size; omega
    have hro2 := hro.mono (B' := w.heap.size + 2) hz1
    have hsl : ∀ i, i < xss.length → ∃ a m c, valAt vl i = .slice a m c := fun i hi => by
      obtain ⟨a9, c9, e9⟩ := (hro2.o.row i (by rw [colsL_len]; exact hi)).form
      exact ⟨a9, _, c9, e9⟩
    have hgl := hro2.o.lt g rfl
    have hown := hro2.o.own
    rw [colsL_len] at hown
    have HREV := Lib.hid (revRows_any g xss.length xss.length _ vl w2 hown hsl (by omega))
    have HRO := Lib.hid hro2
    have HV2 := Lib.hid hV2
    obtain ⟨N, hN⟩ : ∃ N, N = xss.length := ⟨_, rfl⟩
    have HN := Lib.hid hN
    rw [← hN] at HREV H1 HC hlen h12 HRO ⊢
    clear hro hro2 hV2 hV1 hb2 hsl hown HCO hc1 hs hN
    go_wp2_with fail
    refine HREV.out.mono ?_
    rintro e w3 ⟨rfl, ho3, hg3⟩
    have hro3 := HRO.out.rev (by rw [colsL_len]; exact HN.out) ho3 hg3
    rw [HC.out, duT_zero] at hro3
    have b3 := b2.trans (grown_below hg3 w.heap.size (by omega) (by omega))
    have hV3 := HV2.out.kept hg3 (by simp; omega)
    have HRO3 := Lib.hid hro3
    have HV3 := Lib.hid hV3
    obtain ⟨ul, hul⟩ : ∃ ul, ul = vl.reverse := ⟨_, rfl⟩
    rw [← hul] at HRO3
    clear hro3 ho3 hg3 hV3 b1 b2 HREV hul
    go_wp2_with fail
    go_loopw [17] (fun i wr => ∃ k : Nat, k ≤ N ∧ i = .int .i64 k ∧ RowsP wr (w.heap.size + 2) (.slice (some ⟨g, 0, none⟩) N N) ul (sqM (duT F N k) N N) ∧ Var1 wr (w.heap.size + 1) (.slice none 0 0) ∧ Below w.heap.size w wr) (fun i _ => N - (intOf i).toNat)
    case atStart => exact ⟨0, Nat.zero_le _, rfl, HRO3.out, HV3.out, b3⟩
    case round =>
      clear b3
      obtain ⟨k, hk, rfl, hro, hV, hb⟩ := hrel
      have hbs := hb.size
      by_cases hlt : k < N
      · have k1 : (k : Int) < (N : Int) := by omega
        obtain ⟨g4, e4, hg4, hg5, hc4, hf4⟩ := hro.outer (k := k) (by rw [sqM_len]; exact hlt)
        simp only [Option.some.injEq, Addr.mk.injEq, and_true] at e4
        subst e4
        have hrow := hro.o.row k (by rw [sqM_len]; exact hlt)
        obtain ⟨ar, cr, er⟩ := hrow.form
        have hst : Hid (∀ (w9 : World), OwnI w9 (w.heap.size + 2) (valAt ul k) (rowL (sqM (duT F N k) N N) k).reverse → wr.grownBy w9 (valAt ul k).ownBlock → RowsP w9 (w.heap.size + 2) (.slice (some ⟨g, 0, none⟩) N N) ul (sqM (duT F N (k+1)) N N)) := fun w9 h1 h2 => by
          have h := hro.setRow (k := k) (by rw [sqM_len]; exact hlt) h1 h2
          rw [duT_step hlt] at h
          exact h
        have HRL : Hid ((rowL (sqM (duT F N k) N N) k).length = N) := sqM_rlen hlt
        rw [er] at hc4 hrow hst
        have HRV := Lib.hid (revOwn ar cr (rowL (sqM (duT F N k) N N) k) (w.heap.size + 2) wr hrow)
        have hul := hrow.lt
        have HV1 := Lib.hid hV
        obtain ⟨R, hR⟩ : ∃ R, R = rowL (sqM (duT F N k) N N) k := ⟨_, rfl⟩
        rw [← hR] at hc4 HRV hst HRL
        rw [← hR] at hul
        clear hro hV hrow er hR
        go_wp2_with fail
        refine HRV.out.mono ?_
        rintro e w9 ⟨rfl, ho9, hg9⟩
        have hro9 := hst.out w9 ho9 hg9
        have hV9 := HV1.out.kept hg9 (ne_own (fun c e => by have := (hul c e).1; omega))
        have b9 := hb.trans (below_of_grown hg9 (fun c e => by have := (hul c e).1; omega) hbs)
        clear ho9 hg9
        go_wp2_with fail
        go_roundw
        case rel => exact ⟨k + 1, by omega, by go_num, hro9, hV9, b9⟩
        case measure => simp [intOf]; omega
      · obtain rfl : k = N := by omega
        rw [duT_end] at hro
        have ⟨⟨zV, cV⟩, fV⟩ := hV
        have HV1 := Lib.hid hV
        have HRO1 := Lib.hid hro
        clear hro hV
        go_wp2_with fail
        have hV2 := HV1.out.set (.slice (some ⟨g, 0, none⟩) k k)
        have b2 := hb.setCell (p := ⟨w.heap.size + 1, 0, none⟩) (by simp) (.slice (some ⟨g, 0, none⟩) k k)
        refine bodyPost_ret (v := .tuple #[.agg #[.slice (some ⟨g, 0, none⟩) k k], .bool true]) (by have ⟨⟨_, q1⟩, _⟩ := hV2; simp [results, Try.results62, go_sem, q1]) rfl ?_
        exact ⟨_, k, ul, by rw [H1.out, sqM_len], by rw [H1.out, sqM_len]; exact (HRO1.out.setBelow (show w.heap.size + 1 < w.heap.size + 2 by omega) _).mono (by omega), b2⟩

def mkF (xs : List Int) (k b : Nat) : Int := if xs.length - k ≤ b then mmF xs b else 0
set_option maxRecDepth 100000 in
theorem iMirMt_any (a : Option Addr) (xs : List Int) (cap : Nat) (w : World) (hx : Rd w a xs) :
    Calls Try.prog 63 #[.slice a xs.length cap] w (GotI w (mmL xs) (mcB xs)) := by
  obtain ⟨i0, hi, hz0, hz1, hz2⟩ := info_parts infoInt
  go_enter Try.func63, Try.ntmps63
  go_wp2_with fail
  refine (iIsMatching_any _ _ _ _ hx).mono ?_
  rintro e w1 ⟨rfl, hb1⟩
  cases hb0 : mcB xs
  · have HL : Hid (mmL xs = []) := by simp [Hid, mmL, hb0]
    have HB := Lib.hid hb0
    clear hb0
    go_wp2_with fail
    refine bodyPost_ret (v := .tuple #[.slice none 0 0, .bool false]) (by simp [results, Try.results63, go_sem]) rfl ?_
    exact gotI_no HL.out HB.out hb1
  · have HL : Hid (mmL xs = fmap (mmF xs) xs.length) := by simp [Hid, mmL, hb0]
    have h24 := mcB_len hb0
    have HV : Hid (∀ k, k < xs.length → 0 ≤ nth xs k ∧ nth xs k < (xs.length : Int)) := fun k hk => by
      obtain ⟨j, hj, e, _⟩ := mcB_at hb0 hk
      omega
    have HB := Lib.hid hb0
    clear hb0
    go_wp2_with (at_make; refine wpList_make_full _ rfl (.tmp 11) (.tmp 11) 24 rfl w1.heap.size 3 i0 (.int .i64 0) 1 Try.underlying24 hi hz0 hz1 .i64 .i64 _ _ xs.length rfl rfl rfl rfl (by rw [hz2]; omega) (by unfold maxLen; omega) (Nat.le_refl _) ?_; intro w3 hown hgrow)
    have b3 : Below w.heap.size w w3 := hb1.grown hgrow hb1.size (fun k h => by cases h)
    have hown0 := made_row (mkF xs 0) hown
    have e0 : rowF (mkF xs 0) xs.length 0 = fmap (mkF xs 0) xs.length := by
      apply List.ext_getElem (by rw [rowF_len _ (Nat.zero_le _), fmap_len])
      intro j h1 h2
      have hj : j < xs.length := by simpa [fmap_len] using h2
      simp only [rowF, fmap, List.range_zero, List.map_nil, List.nil_append, Nat.sub_zero, List.getElem_replicate, List.getElem_map, List.getElem_range, mkF]
      rw [if_neg (by omega)]
    rw [e0] at hown0
    obtain ⟨g, hg⟩ : ∃ g, g = w1.heap.size := ⟨_, rfl⟩
    have hgz : w.heap.size ≤ g := by have := hb1.size; omega
    have hown1 := hown0.mono hb1.size
    rw [← hg] at hown1 ⊢
    have HE : Hid (fmap (mkF xs xs.length) xs.length = fmap (mmF xs) xs.length) := fmap_cong (fun b hb => by rw [mkF, if_pos (by omega)])
    clear hown hgrow e0 hown0 hg hb1
    go_wp2_with fail
    go_loopw [18] (fun i wr => ∃ k : Nat, k ≤ xs.length ∧ i = .int .i64 k ∧ OwnI wr w.heap.size (.slice (some ⟨g, 0, none⟩) xs.length xs.length) (fmap (mkF xs k) xs.length) ∧ Below w.heap.size w wr) (fun i _ => xs.length - (intOf i).toNat)
    case atStart => exact ⟨0, Nat.zero_le _, rfl, hown1, b3⟩
    case round =>
      clear b3 hown1
      obtain ⟨k, hk, rfl, hown, hb⟩ := hrel
      by_cases hlt : k < xs.length
      · obtain ⟨b, off, rfl, hbl, hc⟩ := (hx.below hb).cell k hlt
        have ⟨v0, v1⟩ := HV.out k hlt
        obtain ⟨j, hj⟩ : ∃ j, j = xs.length - 1 - k := ⟨_, rfl⟩
        have hl0 : (fmap (mkF xs k) xs.length).length = xs.length := fmap_len _ _
        have ⟨cj, fj⟩ := hown.at' hl0.symm (i := j) (by omega)
        have hput := (hown.put hl0.symm j ((xs.length : Int) - 1 - nth xs k)).1
        have hset : (fmap (mkF xs k) xs.length).set j ((xs.length : Int) - 1 - nth xs k) = fmap (mkF xs (k+1)) xs.length := fmap_upd (by omega) (fun b hb => by
          simp only [mkF]
          by_cases e : b = j
          · rw [if_pos e, if_pos (by omega), mmF]
            rw [show xs.length - 1 - b = k by omega]
          · rw [if_neg e]
            by_cases h : xs.length - k ≤ b
            · rw [if_pos h, if_pos (by omega)]
            · rw [if_neg h, if_neg (by omega)])
        rw [hset] at hput
        have HP := Lib.hid hput
        have hcast : (xs.length : Int) - 1 - (k : Int) = (j : Int) := by omega
        have hj1 : (j : Int) < (xs.length : Int) := by omega
        clear hset hput hj hl0 hown
        go_wp2_with fail
        go_roundw
        case rel => exact ⟨k + 1, by omega, by go_num, by exact HP.out, hb.setCell (p := ⟨g, j, none⟩) hgz _⟩
        case measure => simp [intOf]; omega
      · obtain rfl : k = xs.length := by omega
        rw [HE.out] at hown
        go_wp2_with fail
        refine bodyPost_ret (v := .tuple #[.slice (some ⟨g, 0, none⟩) xs.length xs.length, .bool true]) (by simp [results, Try.results63, go_sem]) rfl ?_
        exact ⟨_, xs.length, by rw [HL.out, HB.out, fmap_len], by rw [HL.out, fmap_len]; exact hown, hb⟩

set_option maxRecDepth 100000 in
set_option maxHeartbeats 8000000 in
theorem walk (a0 : Option Addr) (n0 cap0 : Nat) (a1 : Option Addr) (n1 cap1 : Nat) (w : World) (hR0 : RdB w a0 n0) (hl0 : n0 ≤ 9223372036854775807) (hR1 : RdB w a1 n1) (hl1 : n1 ≤ 9223372036854775807) :
    Calls Try.prog 7 #[.slice a0 n0 cap0, .slice a1 n1 cap1] w fun e w' => e = .returned (.bool true) ∧ Below w.heap.size w w' := by
  go_enter Try.func7, Try.ntmps7
  go_wp2_with fail
  refine (big_any _ _ _ _ _ _ _ hl0 hl1).mono ?_
  rintro e w' ⟨he, rfl⟩
  rcases he with rfl | ⟨rfl, hb0, hb1⟩
  · go_wp2_with fail
    go_ret
    exact ⟨rfl, (by repeat (first | exact Below.refl _ _ | assumption | refine Below.alloc ?_ (by first | exact Nat.le_refl _ | (simp only [World.size_alloc, World.size_setCell, World.size_drew]; omega) | omega) _ | refine Below.setCell ?_ (by first | exact Nat.le_refl _ | (simp only [World.size_alloc, World.size_setCell, World.size_drew]; omega) | omega) _ | refine Below.drew ?_))⟩
  · go_wp2_with fail
    refine (drMtMx_any _ _ _ _ hR0 hb0).mono ?_
    rintro e w1 ⟨a, cap, xss, rfl, hx, hs, hb⟩
    have HB := Lib.hid hb
    have HR := Lib.hid hx
    clear hx hb hR0 hR1 hl0 hl1 hb0 hb1
    obtain ⟨T, hT⟩ : ∃ T, T = tmL xss := ⟨_, rfl⟩
    obtain ⟨F, hF⟩ : ∃ F, F = mxB xss := ⟨_, rfl⟩
    have HIM := Lib.hid (fun W (h : RdC W a xss) => iMtMx_any a xss cap W h hs)
    have HSM := Lib.hid (fun W (h : RdC W a xss) => sMtMx_any a xss cap W h hs)
    rw [← hT, ← hF] at HIM HSM
    have HTE := Lib.hid hT
    have HFE := Lib.hid hF
    have q1 : (F != F) = false := by simp
    have hxl : xss.length ≤ 1048576 := by omega
    clear hT hF
    have HEQ : Hid (∀ l : List Int, eqL l l = true) := fun l => by simp [eqL]
    have ba1 : Below w1.heap.size w1 (w1.alloc (.cells #[.slice a xss.length cap] 62)) := (Below.refl _ _).alloc (Nat.le_refl _) _
    have HA := Lib.hid (Box1.new w1 (.slice a xss.length cap) 62)
    replace HB := Lib.hid (HB.out.trans (ba1.mono HB.out.size))
    replace HR := Lib.hid (HR.out.below ba1)
    obtain ⟨v1, hv1⟩ : ∃ x : World, x = w1.alloc (.cells #[.slice a xss.length cap] 62) := ⟨_, rfl⟩
    have HV1 := Lib.hid hv1
    rw [← hv1] at HA HB HR
    clear ba1 hv1
    have cA := HA.out.2
    go_wp2_with fail
    rw [← HV1.out]
    clear cA
    have ⟨zA, cA⟩ := HA.out
    refine (HIM.out _ HR.out).mono ?_
    rintro e w3 ⟨a3, c3, rfl, ho3, hb3⟩
    try clear zA cA
    replace HB := Lib.hid (HB.out.trans (hb3.mono HB.out.size))
    replace HA := Lib.hid (HA.out.below hb3)
    replace HR := Lib.hid (HR.out.below hb3)
    have ⟨zA, cA⟩ := HA.out
    clear hb3
    have HC := Lib.hid ho3.rd
    clear ho3
    go_wp2_with fail
    refine (HSM.out _ HR.out).mono ?_
    rintro e w4 ⟨a4, c4, rfl, ho4, hb4⟩
    try clear zA cA
    replace HB := Lib.hid (HB.out.trans (hb4.mono HB.out.size))
    replace HA := Lib.hid (HA.out.below hb4)
    replace HR := Lib.hid (HR.out.below hb4)
    replace HC := Lib.hid (HC.out.below hb4)
    have ⟨zA, cA⟩ := HA.out
    clear hb4
    have HD := Lib.hid ho4.rd
    clear ho4 HIM HSM
    go_wp2_with fail
    refine ((pSame_any a3 a4 T T c3 c4 _ HC.out HD.out)).mono ?_
    rw [HEQ.out]
    rintro e w5 ⟨rfl, hb5⟩
    try clear zA cA
    replace HB := Lib.hid (HB.out.trans (hb5.mono HB.out.size))
    replace HA := Lib.hid (HA.out.below hb5)
    replace HR := Lib.hid (HR.out.below hb5)
    replace HC := Lib.hid (HC.out.below hb5)
    replace HD := Lib.hid (HD.out.below hb5)
    have ⟨zA, cA⟩ := HA.out
    clear hb5
    clear HD
    cases hFF : F
    · go_wp2_with fail
      go_ret
      exact ⟨rfl, HB.out⟩
    · have hm : mxB xss = true := by rw [← HFE.out]; exact hFF
      have hmc := tm_mc hm
      have htd := tm_tidy hm
      have hbk := tm_mx hm
      have hmi := tm_mir hm
      have hrl := tm_rl hm
      have hat := fun i (hi : i < xss.length) => tm_runs hm hi
      have hlT : T.length ≤ 24 := by rw [HTE.out]; exact mcB_len hmc
      rw [← HTE.out] at hmc htd hbk hmi hrl hat
      have hdm := du_mx hm
      have hds := duL_len xss
      obtain ⟨D, hD⟩ : ∃ D, D = duL xss := ⟨_, rfl⟩
      rw [← hD] at hdm hds hmi
      obtain ⟨Z, hZ⟩ : ∃ Z, Z = tmL D := ⟨_, rfl⟩
      rw [← hZ] at hmi
      have hZl : Z.length ≤ 24 := by rw [hZ]; exact mcB_len (tm_mc hdm)
      have HTD : Hid (∀ W, Rd W a3 T → Calls Try.prog 59 #[.slice a3 T.length c3] W fun e w' => e = .returned (.tuple #[.bool true, .bool true]) ∧ Below W.heap.size W w') := fun W h => by
        have := iIsTidy_any a3 T c3 W h
        rw [htd, hmc] at this
        exact this
      have HBK : Hid (∀ W, Rd W a3 T → Calls Try.prog 60 #[.slice a3 T.length c3] W fun e w' => ∃ a0 c0 vl, e = .returned (.tuple #[.agg #[.slice a0 xss.length c0], .bool true]) ∧ RowsP w' W.heap.size (.slice a0 xss.length c0) vl xss ∧ Below W.heap.size W w') := fun W h => by
        have := iMxMt_any a3 T c3 W h
        rw [hbk, hmc] at this
        exact this
      obtain ⟨RL, hRL⟩ : ∃ RL, RL = rlTo T T.length := ⟨_, rfl⟩
      rw [← hRL] at hrl hat
      have HRU : Hid (∀ W, Rd W a3 T → Calls Try.prog 61 #[.slice a3 T.length c3] W (GotI W RL true)) := fun W h => by
        have := iRuns_any a3 T c3 W h
        rw [rlL, hmc, if_pos rfl, ← hRL] at this
        exact this
      have hrs : (rsL xss).length = xss.length := by rw [rsL, if_pos hm, fmap_len]
      have hcs : (csL xss).length = xss.length := by rw [csL, if_pos hm, fmap_len]
      have HAT : Hid (∀ k, k < xss.length → nth RL (2*k) = nth (rsL xss) k ∧ nth RL (2*k+1) = nth (csL xss) k) := fun k hk => by
        have := hat k hk
        rw [rsL, if_pos hm, csL, if_pos hm, fmap_nth _ hk, fmap_nth _ hk]
        exact this
      have HRS : Hid (∀ W, RdC W a xss → Calls Try.prog 52 #[.agg #[.slice a xss.length cap]] W fun e w' => ∃ a0 c0 a1 c1, e = .returned (.tuple #[.slice a0 (rsL xss).length c0, .slice a1 (csL xss).length c1, .bool true]) ∧ OwnI w' W.heap.size (.slice a0 (rsL xss).length c0) (rsL xss) ∧ OwnI w' W.heap.size (.slice a1 (csL xss).length c1) (csL xss) ∧ Below W.heap.size W w') := fun W h => by
        have := iRowSums_any a xss cap W h hs
        rw [hm] at this
        refine this.mono ?_
        rintro e w' ⟨a', c', a'', c'', rfl, h1, h2, _, h3⟩
        exact ⟨a', c', a'', c'', rfl, h1, h2, h3⟩
      have HDU : Hid (∀ W, RdC W a xss → Calls Try.prog 62 #[.agg #[.slice a xss.length cap]] W fun e w' => ∃ a0 c0 vl, e = .returned (.tuple #[.agg #[.slice a0 D.length c0], .bool true]) ∧ RowsP w' W.heap.size (.slice a0 D.length c0) vl D ∧ Below W.heap.size W w') := fun W h => by
        have := iDual_any a xss cap W h hs
        rw [hm, ← hD] at this
        exact this
      have HOT : Hid (∀ W a' c', RdC W a' D → Calls Try.prog 57 #[.agg #[.slice a' D.length c']] W (GotI W Z true)) := fun W a' c' h => by
        have := iMtMx_any a' D c' W h hds
        rw [← hZ, hdm] at this
        exact this
      have HMI : Hid (∀ W, Rd W a3 T → Calls Try.prog 63 #[.slice a3 T.length c3] W (GotI W Z true)) := fun W h => by
        have := iMirMt_any a3 T c3 W h
        rw [hmi, hmc] at this
        exact this
      have h12 : xss.length ≤ 12 := mxB_small hm
      have hdl : D.length ≤ 1048576 := by omega
      generalize rsL xss = RS at HRS HAT hrs
      generalize csL xss = CS at HRS HAT hcs
      have hx9 : ((RL.length : Int) != 2 * (RS.length : Int)) = false := by
        simp only [bne_eq_false_iff_eq]; omega
      have HRLN := Lib.hid hrl
      have HRSN := Lib.hid hrs
      have HCSN := Lib.hid hcs
      have hrl24 : RL.length ≤ 24 := by omega
      have hrs12 : RS.length ≤ 12 := by omega
      clear hm hmc htd hbk hmi hrl hat hdm hds hD hZ hRL hrs hcs HTE HFE hFF q1 hs
      go_wp2_with fail
      refine (HTD.out _ HC.out).mono ?_
      rintro e w6 ⟨rfl, hb6⟩
      try clear zA cA
      replace HB := Lib.hid (HB.out.trans (hb6.mono HB.out.size))
      replace HA := Lib.hid (HA.out.below hb6)
      replace HR := Lib.hid (HR.out.below hb6)
      replace HC := Lib.hid (HC.out.below hb6)
      have ⟨zA, cA⟩ := HA.out
      clear hb6
      go_wp2_with fail
      refine (HBK.out _ HC.out).mono ?_
      rintro e w7 ⟨a7, c7, l7, rfl, ho7, hb7⟩
      try clear zA cA
      replace HB := Lib.hid (HB.out.trans (hb7.mono HB.out.size))
      replace HA := Lib.hid (HA.out.below hb7)
      replace HR := Lib.hid (HR.out.below hb7)
      replace HC := Lib.hid (HC.out.below hb7)
      have ⟨zA, cA⟩ := HA.out
      clear hb7
      have HD := Lib.hid ho7.rdC
      clear ho7 HTD HBK
      have ba7 : Below w7.heap.size w7 (w7.alloc (.cells #[.slice a7 xss.length c7] 62)) := (Below.refl _ _).alloc (Nat.le_refl _) _
      have HN := Lib.hid (Box1.new w7 (.slice a7 xss.length c7) 62)
      replace HB := Lib.hid (HB.out.trans (ba7.mono HB.out.size))
      replace HA := Lib.hid (HA.out.below ba7)
      replace HR := Lib.hid (HR.out.below ba7)
      replace HC := Lib.hid (HC.out.below ba7)
      replace HD := Lib.hid (HD.out.below ba7)
      obtain ⟨v7, hv7⟩ : ∃ x : World, x = w7.alloc (.cells #[.slice a7 xss.length c7] 62) := ⟨_, rfl⟩
      have HV7 := Lib.hid hv7
      rw [← hv7] at HN HB HA HR HC HD
      clear ba7 hv7
      have cN := HN.out.2
      go_wp2_with fail
      rw [← HV7.out]
      try clear zA cA
      clear cN
      have ⟨zA, cA⟩ := HA.out
      have ⟨zN, cN⟩ := HN.out
      refine (HRU.out _ HC.out).mono ?_
      rintro e w8 ⟨a8, c8, rfl, ho8, hb8⟩
      try clear zA cA
      try clear zN cN
      replace HB := Lib.hid (HB.out.trans (hb8.mono HB.out.size))
      replace HA := Lib.hid (HA.out.below hb8)
      replace HN := Lib.hid (HN.out.below hb8)
      replace HR := Lib.hid (HR.out.below hb8)
      replace HC := Lib.hid (HC.out.below hb8)
      replace HD := Lib.hid (HD.out.below hb8)
      have ⟨zA, cA⟩ := HA.out
      have ⟨zN, cN⟩ := HN.out
      clear hb8
      have HU := Lib.hid ho8.rd
      clear ho8 HRU
      go_wp2_with fail
      refine (HRS.out _ HR.out).mono ?_
      rintro e w9 ⟨a9, c9, d9, e9, rfl, ho9, hq9, hb9⟩
      try clear zA cA
      try clear zN cN
      replace HB := Lib.hid (HB.out.trans (hb9.mono HB.out.size))
      replace HA := Lib.hid (HA.out.below hb9)
      replace HN := Lib.hid (HN.out.below hb9)
      replace HR := Lib.hid (HR.out.below hb9)
      replace HC := Lib.hid (HC.out.below hb9)
      replace HD := Lib.hid (HD.out.below hb9)
      replace HU := Lib.hid (HU.out.below hb9)
      have ⟨zA, cA⟩ := HA.out
      have ⟨zN, cN⟩ := HN.out
      clear hb9
      have HV := Lib.hid ho9.rd
      have HW := Lib.hid hq9.rd
      clear ho9 hq9 HRS
      go_wp2_with fail
      refine (HDU.out _ HR.out).mono ?_
      rintro e w10 ⟨a10, c10, l10, rfl, ho10, hb10⟩
      try clear zA cA
      try clear zN cN
      replace HB := Lib.hid (HB.out.trans (hb10.mono HB.out.size))
      replace HA := Lib.hid (HA.out.below hb10)
      replace HN := Lib.hid (HN.out.below hb10)
      replace HR := Lib.hid (HR.out.below hb10)
      replace HC := Lib.hid (HC.out.below hb10)
      replace HD := Lib.hid (HD.out.below hb10)
      replace HU := Lib.hid (HU.out.below hb10)
      replace HV := Lib.hid (HV.out.below hb10)
      replace HW := Lib.hid (HW.out.below hb10)
      have ⟨zA, cA⟩ := HA.out
      have ⟨zN, cN⟩ := HN.out
      clear hb10
      have HG := Lib.hid ho10.rdC
      clear ho10 HDU
      have ba10 : Below w10.heap.size w10 (w10.alloc (.cells #[.slice a10 D.length c10] 62)) := (Below.refl _ _).alloc (Nat.le_refl _) _
      have HO := Lib.hid (Box1.new w10 (.slice a10 D.length c10) 62)
      replace HB := Lib.hid (HB.out.trans (ba10.mono HB.out.size))
      replace HA := Lib.hid (HA.out.below ba10)
      replace HN := Lib.hid (HN.out.below ba10)
      replace HR := Lib.hid (HR.out.below ba10)
      replace HC := Lib.hid (HC.out.below ba10)
      replace HD := Lib.hid (HD.out.below ba10)
      replace HU := Lib.hid (HU.out.below ba10)
      replace HV := Lib.hid (HV.out.below ba10)
      replace HW := Lib.hid (HW.out.below ba10)
      replace HG := Lib.hid (HG.out.below ba10)
      obtain ⟨v10, hv10⟩ : ∃ x : World, x = w10.alloc (.cells #[.slice a10 D.length c10] 62) := ⟨_, rfl⟩
      have HV10 := Lib.hid hv10
      rw [← hv10] at HO HB HA HN HR HC HD HU HV HW HG
      clear ba10 hv10
      have cO := HO.out.2
      go_wp2_with fail
      rw [← HV10.out]
      try clear zA cA
      try clear zN cN
      clear cO
      have ⟨zA, cA⟩ := HA.out
      have ⟨zN, cN⟩ := HN.out
      have ⟨zO, cO⟩ := HO.out
      refine (HOT.out _ _ _ HG.out).mono ?_
      rintro e w11 ⟨a11, c11, rfl, ho11, hb11⟩
      try clear zA cA
      try clear zN cN
      try clear zO cO
      replace HB := Lib.hid (HB.out.trans (hb11.mono HB.out.size))
      replace HA := Lib.hid (HA.out.below hb11)
      replace HN := Lib.hid (HN.out.below hb11)
      replace HO := Lib.hid (HO.out.below hb11)
      replace HR := Lib.hid (HR.out.below hb11)
      replace HC := Lib.hid (HC.out.below hb11)
      replace HD := Lib.hid (HD.out.below hb11)
      replace HU := Lib.hid (HU.out.below hb11)
      replace HV := Lib.hid (HV.out.below hb11)
      replace HW := Lib.hid (HW.out.below hb11)
      replace HG := Lib.hid (HG.out.below hb11)
      have ⟨zA, cA⟩ := HA.out
      have ⟨zN, cN⟩ := HN.out
      have ⟨zO, cO⟩ := HO.out
      clear hb11
      have HP := Lib.hid ho11.rd
      clear ho11 HOT HG HO
      try clear zO cO
      go_wp2_with fail
      refine (HMI.out _ HC.out).mono ?_
      rintro e w12 ⟨a12, c12, rfl, ho12, hb12⟩
      try clear zA cA
      try clear zN cN
      replace HB := Lib.hid (HB.out.trans (hb12.mono HB.out.size))
      replace HA := Lib.hid (HA.out.below hb12)
      replace HN := Lib.hid (HN.out.below hb12)
      replace HR := Lib.hid (HR.out.below hb12)
      replace HC := Lib.hid (HC.out.below hb12)
      replace HD := Lib.hid (HD.out.below hb12)
      replace HU := Lib.hid (HU.out.below hb12)
      replace HV := Lib.hid (HV.out.below hb12)
      replace HW := Lib.hid (HW.out.below hb12)
      replace HP := Lib.hid (HP.out.below hb12)
      have ⟨zA, cA⟩ := HA.out
      have ⟨zN, cN⟩ := HN.out
      clear hb12
      have HQ := Lib.hid ho12.rd
      clear ho12 HMI HC
      go_wp2_with fail
      refine ((pSameM_same a7 a xss c7 cap _ HD.out HR.out hxl)).mono ?_
      rintro e w13 ⟨rfl, hb13⟩
      try clear zA cA
      try clear zN cN
      replace HB := Lib.hid (HB.out.trans (hb13.mono HB.out.size))
      replace HA := Lib.hid (HA.out.below hb13)
      replace HN := Lib.hid (HN.out.below hb13)
      replace HR := Lib.hid (HR.out.below hb13)
      replace HD := Lib.hid (HD.out.below hb13)
      replace HU := Lib.hid (HU.out.below hb13)
      replace HV := Lib.hid (HV.out.below hb13)
      replace HW := Lib.hid (HW.out.below hb13)
      replace HP := Lib.hid (HP.out.below hb13)
      replace HQ := Lib.hid (HQ.out.below hb13)
      have ⟨zA, cA⟩ := HA.out
      have ⟨zN, cN⟩ := HN.out
      clear hb13
      go_wp2_with fail
      refine ((pSame_any a12 a11 Z Z c12 c11 _ HQ.out HP.out)).mono ?_
      rw [HEQ.out]
      rintro e w14 ⟨rfl, hb14⟩
      try clear zA cA
      try clear zN cN
      replace HB := Lib.hid (HB.out.trans (hb14.mono HB.out.size))
      replace HA := Lib.hid (HA.out.below hb14)
      replace HN := Lib.hid (HN.out.below hb14)
      replace HR := Lib.hid (HR.out.below hb14)
      replace HD := Lib.hid (HD.out.below hb14)
      replace HU := Lib.hid (HU.out.below hb14)
      replace HV := Lib.hid (HV.out.below hb14)
      replace HW := Lib.hid (HW.out.below hb14)
      replace HP := Lib.hid (HP.out.below hb14)
      replace HQ := Lib.hid (HQ.out.below hb14)
      have ⟨zA, cA⟩ := HA.out
      have ⟨zN, cN⟩ := HN.out
      clear hb14
      clear HD HR HP HQ HA HN HEQ
      try clear zA cA
      try clear zN cN
      go_wp2_with fail
      have HBB := HB
      have HUU := HU
      have HVV := HV
      have HWW := HW
      go_loopw [140] (fun i wr => ∃ k : Nat, k ≤ RS.length ∧ i = .int .i64 k ∧ Below w14.heap.size w14 wr) (fun i _ => RS.length - (intOf i).toNat)
      case atStart => exact ⟨0, Nat.zero_le _, rfl, Below.refl _ _⟩
      case round =>
        obtain ⟨k, hk, rfl, hb⟩ := hrel
        have HT := Lib.hid hb
        by_cases hlt : k < RS.length
        · have k1 : (k : Int) < (RS.length : Int) := by omega
          have ⟨v1, v2⟩ := HAT.out k (by rw [← HRSN.out]; exact hlt)
          have n1 : 2 * k < RL.length := by rw [HRLN.out, ← HRSN.out]; omega
          have n2 : 2 * k + 1 < RL.length := by rw [HRLN.out, ← HRSN.out]; omega
          obtain ⟨b1, o1, rfl, hb1, hc1⟩ := (HUU.out.below hb).cell (2*k) n1
          obtain ⟨b1', o1', e1, _, hc1'⟩ := (HUU.out.below hb).cell (2*k+1) n2
          obtain ⟨rfl, rfl⟩ : b1 = b1' ∧ o1 = o1' := by simpa using e1
          obtain ⟨b2, o2, rfl, hb2, hc2⟩ := (HVV.out.below hb).cell k hlt
          obtain ⟨b3, o3, rfl, hb3, hc3⟩ := (HWW.out.below hb).cell k (by rw [HCSN.out, ← HRSN.out]; exact hlt)
          have hcl : k < CS.length := by rw [HCSN.out, ← HRSN.out]; exact hlt
          rw [v1] at hc1
          rw [v2] at hc1'
          generalize nth RS k = x at hc1 hc2
          generalize nth CS k = y at hc1' hc3
          have qx : (x != x) = false := by simp
          have qy : (y != y) = false := by simp
          clear v1 v2 hb e1
          go_wp2_with fail
          go_region
          all_goals
            go_wp2_with fail
            go_roundw
            case rel => exact ⟨k + 1, by omega, by go_num, by first | exact HT.out.trans (Joins.below_draws _ _ _) | exact HT.out.trans (by first | exact (Joins.below_draws _ _ _).trans (Joins.below_draws _ _ _) | exact ((Joins.below_draws _ _ _).trans (Joins.below_draws _ _ _)).trans (Joins.below_draws _ _ _))⟩
            case measure => simp [intOf]; omega
        · obtain rfl : k = RS.length := by omega
          go_wp2_with fail
          go_ret
          exact ⟨rfl, HBB.out.trans (hb.mono HBB.out.size)⟩

theorem rd_of_trod {H : Type} {enc : TypeId × Value → H} {W : World} {fuel : Nat} {c : Value} {y : DataW H × List MemPlace}
    (h : DataW.trod enc Try.prog W 0 (fun _ => true) true fuel 24 [c] = some y) : ∃ (a : Option Addr) (xs : List Int) (cap : Nat), c = .slice a xs.length cap ∧ Rd W a xs ∧ ∀ k, k < xs.length → (Lit.int .i64 (nth xs k)).wf = true := by
  rcases Go.ChangeShapes.open_ints Try.underlying24 Try.underlying3 (by kernel_rfl) h with ⟨hcs, _⟩ | ⟨x, len, cap, zs, hcs, _, hl, hm, hz, _, hcell, hwf⟩
  · simp only [List.cons.injEq, and_true] at hcs
    exact ⟨none, [], 0, hcs, ⟨by simp, fun k hk => by simp at hk⟩, fun k hk => by simp at hk⟩
  · simp only [List.cons.injEq, and_true] at hcs
    simp only [if_true] at hz
    have hlen : (zs.take len).length = len := by rw [List.length_take]; omega
    have hn : ∀ k, k < len → nth (zs.take len) k = zs.getD k 0 := by
      intro k hk
      simp only [nth, List.getD_eq_getElem?_getD, List.getElem?_take, hk, if_true]
    refine ⟨some x, zs.take len, cap, by rw [hlen]; exact hcs, ⟨by rw [hlen]; unfold maxLen at hm; omega, fun k hk => ?_⟩, fun k hk => ?_⟩
    · rw [hlen] at hk
      obtain ⟨b, off, sp⟩ := x
      have h0 := hcell 0 (by omega)
      have hsp : sp = none := by simpa [Addr.add] using World.cell?_spot h0
      subst hsp
      have hk' := hcell k (by omega)
      rw [Addr.add_lit] at hk'
      exact ⟨b, off, rfl, World.block_lt_of_cell? _ _ h0, by rw [hk', hn k hk]⟩
    · rw [hlen] at hk
      rw [hn k hk]
      have hk2 : k < zs.length := by omega
      exact hwf _ (by rw [List.getD_eq_getElem?_getD, List.getElem?_eq_getElem hk2]; exact List.getElem_mem hk2)

theorem own : ownKnob Try.prog.godebug = none := by kernel_rfl
theorem laidOut : laidOutB Try.prog = true := by kernel_rfl
theorem wf_bd {n : Int} (h : (Lit.int .i64 n).wf = true) : -9223372036854775808 ≤ n ∧ n ≤ 9223372036854775807 := by
  simp [Lit.wf, IntKind.min, IntKind.max, IntKind.bits, IntKind.signed] at h
  omega

theorem wf_byte {n : Int} (h : (Lit.int .u8 n).wf = true) : 0 ≤ n ∧ n ≤ 255 := by
  simp [Lit.wf, IntKind.min, IntKind.max, IntKind.bits, IntKind.signed] at h
  omega
/-- a slice of bytes that was handed over -/
theorem rdB_of_trod {H : Type} {enc : TypeId × Value → H} {W : World} {fuel : Nat} {c : Value} {y : DataW H × List MemPlace}
    (h : DataW.trod enc Try.prog W 0 (fun _ => true) true fuel 22 [c] = some y) : ∃ (a : Option Addr) (n cap : Nat), c = .slice a n cap ∧ RdB W a n ∧ n ≤ 9223372036854775807 := by
  rcases Go.ChangeShapes.open_ints Try.underlying22 Try.underlying5 (by kernel_rfl) h with ⟨hcs, _⟩ | ⟨x, len, cap, zs, hcs, _, hl, hm, hz, _, hcell, hwf⟩
  · simp only [List.cons.injEq, and_true] at hcs
    exact ⟨none, 0, 0, hcs, ⟨fun k hk => by omega⟩, by omega⟩
  · simp only [List.cons.injEq, and_true] at hcs
    simp only [if_true] at hz
    refine ⟨some x, len, cap, hcs, ⟨fun k hk => ?_⟩, by unfold maxLen at hm; omega⟩
    obtain ⟨b, off, sp⟩ := x
    have h0 := hcell 0 (by omega)
    have hsp : sp = none := by simpa [Addr.add] using World.cell?_spot h0
    subst hsp
    have hk' := hcell k (by omega)
    rw [Addr.add_lit] at hk'
    have hk2 : k < zs.length := by omega
    have hw := hwf _ (show zs.getD k 0 ∈ zs by rw [List.getD_eq_getElem?_getD, List.getElem?_eq_getElem hk2]; exact List.getElem_mem hk2)
    refine ⟨b, off, rfl, World.block_lt_of_cell? _ _ h0, zs.getD k 0, hk', ?_⟩
    exact wf_byte hw

open Go.ChangeShapes Go.WideShapes Go.ChangeAt Go.RowKit in
set_option maxRecDepth 100000 in
theorem lifted (os : Os) (started : os.Started) (H : Type) (enc : TypeId × Value → H) :
    ReturnsInHanded {} Try.checked os 7 .any (Rows.fnMatchingsAreMatricesSpec.pre6 enc Try.prog Try.f7 Rows.fnMatchingsAreMatricesRow.domain false) (Rows.fnMatchingsAreMatricesSpec.post enc Try.prog Try.f7 false true false false) := by
  refine returnsInHanded_of_change (C := Try.checked) own started (by kernel_rfl) Try.func7
    (ChangeSpec.witness6 (enc := enc) (C := Try.checked) false ⟨#[], #[.slice none 0 0, .slice none 0 0], []⟩ 8 (by kernel_rfl) (by kernel_rfl) (by kernel_rfl) (by kernel_rfl)) ?_
  intro W base args ds gs before hval0 hW hcnd _
  have hval : ∀ (j : Nat) t v, Try.f7.params[j]? = some t → args[j]? = some v → Value.okWide Try.prog W .any base t v := hval0
  have hW' := hW
  obtain ⟨p, q, hA0, hV, rfl, hfz, hnd⟩ := hW
  have hA : DataW.TrodAll enc Try.prog W 0 (fun _ => true) true Try.f7.params.toList args.toList ds p := hA0
  rw [Try.params7] at hA hval
  obtain ⟨v0, vs0, d0, ds0, p0, q0, hargs, rfl, rfl, h0, r0⟩ := trodAll_cons hA
  obtain ⟨v1, vs1, d1, ds1, p1, q1, rfl, rfl, rfl, h1, r1⟩ := trodAll_cons r0
  obtain ⟨rfl, rfl, rfl⟩ := trodAll_nil r1
  obtain rfl : args = #[v0, v1] := by cases args; simp_all
  obtain ⟨rfl, rfl⟩ := trodVars_none hV
  have lt0 : ∀ x ∈ p0, x.block < W.heap.size := by obtain ⟨m, hm⟩ := h0; exact DataW.trod_lt m _ _ _ hm
  have lt1 : ∀ x ∈ p1, x.block < W.heap.size := by obtain ⟨m, hm⟩ := h1; exact DataW.trod_lt m _ _ _ hm
  obtain ⟨a0, len0, cap0, rfl⟩ := okWide_slice Try.underlying22 (hval 0 22 v0 rfl rfl)
  obtain ⟨a0, n0, cap0, e0, rd0, ln0⟩ := (by obtain ⟨fu, hf⟩ := h0; simp only [Value.cells] at hf; exact rdB_of_trod hf : ∃ (a : Option Addr) (n cap : Nat), Value.slice a0 len0 cap0 = .slice a n cap ∧ RdB W a n ∧ n ≤ 9223372036854775807)
  simp only [Value.slice.injEq] at e0
  obtain ⟨rfl, rfl, rfl⟩ := e0
  obtain ⟨a1, len1, cap1, rfl⟩ := okWide_slice Try.underlying22 (hval 1 22 v1 rfl rfl)
  obtain ⟨a1, n1, cap1, e1, rd1, ln1⟩ := (by obtain ⟨fu, hf⟩ := h1; simp only [Value.cells] at hf; exact rdB_of_trod hf : ∃ (a : Option Addr) (n cap : Nat), Value.slice a1 len1 cap1 = .slice a n cap ∧ RdB W a n ∧ n ≤ 9223372036854775807)
  simp only [Value.slice.injEq] at e1
  obtain ⟨rfl, rfl, rfl⟩ := e1
  clear hA0 hval0
  refine (walk a0 len0 cap0 a1 len1 cap1 W rd0 ln0 rd1 ln1).mono fun e W' ⟨he, bel⟩ => ?_
  subst he
  exact ⟨_, rfl, _, _, _, [], _, [], hW', trodAll_mk1 (shut_bool Try.underlying4 _), (trodAll_cons_mk (Below.trod laidOut (by kernel_rfl) (of_decide_eq_true (by kernel_rfl)) h0 bel lt0) (trodAll_cons_mk (Below.trod laidOut (by kernel_rfl) (of_decide_eq_true (by kernel_rfl)) h1 bel lt1) trodAll_mk0)), rfl, bel.frame _, fun h => by cases h⟩
theorem proved : Rows.FnMatchingsAreMatricesSaid :=
  OpenClaim.holds_of_wide 7 Try.f7 rfl rfl rfl rfl rfl rfl rfl ⟨rfl, rfl, rfl, rfl, rfl⟩ rfl rfl rfl rfl rfl (by kernel_rfl) Try.func7 (by kernel_rfl)
    (of_decide_eq_true (by kernel_rfl)) (by unfold Func.isWrapper; first | (rw [if_pos (by decide +kernel)]; kernel_rfl) | (rw [if_neg (by decide +kernel)]; exact ⟨rfl, rfl⟩))
    (fun os started H enc _ => lifted os started H enc)

end Go.Proofs.Ytkpfjemlldiogaa.matchingsAreMatrices
