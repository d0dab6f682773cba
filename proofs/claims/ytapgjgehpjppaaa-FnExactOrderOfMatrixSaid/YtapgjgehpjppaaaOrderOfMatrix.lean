/- PROVED: the law FnExactOrderOfMatrix returns true for every input, and each of its arguments reads afterwards as before. No conditions. -/
import Derived.Test.YtapgjgehpjppaaaRows
import Derived.WalkKit
import Derived.WalkSpells
import Derived.WalkLawsBesides
import Derived.Deep.QuietTactic
import Derived.BigQuiet
import Derived.ProofKit
import Derived.OpenShut
import Derived.ShutString
import Derived.ChangeOld
import Derived.Below
import Derived.Lib.SmallJoins
import Derived.Lib.Hide
import Derived.Deep.RegionHeld3
import Derived.Maps.AppendAt
import Derived.Deep.AppendLies
import Derived.Deep.RegionLaw
import Derived.Deep.Matrix
import Derived.Test.YtapgjgehpjppaaaOrderOfMatrixP1
namespace Go.Proofs.Ytapgjgehpjppaaa.orderOfMatrix
open Go Go.RowKit
set_option linter.unusedVariables false
set_option linter.unusedSimpArgs false
set_option maxHeartbeats 400000
def colF (xss : List (List Int)) (k q : Nat) (a b : Nat) : Int := if b < k ∨ (b = k ∧ a < q) then atM xss b a else 0
theorem colsL_sq (xss : List (List Int)) : colsL xss = sqM (fun a b => atM xss b a) xss.length xss.length := rfl
theorem colF_end {xss : List (List Int)} {n : Nat} : sqM (colF xss n 0) n n = sqM (fun a b => atM xss b a) n n :=
  sqM_congr (fun a ha b hb => by rw [colF, if_pos (.inl hb)])
theorem colF_next {xss : List (List Int)} {n k : Nat} : sqM (colF xss k n) n n = sqM (colF xss (k+1) 0) n n :=
  sqM_congr (fun a ha b hb => by
    rw [colF, colF]
    by_cases h : b < k + 1
    · rw [if_pos (by omega), if_pos (.inl h)]
    · rw [if_neg (by omega), if_neg (by omega)])
theorem colF_zero {xss : List (List Int)} {n : Nat} : sqM (fun _ _ => 0) n n = sqM (colF xss 0 0) n n :=
  sqM_congr (fun a ha b hb => by rw [colF, if_neg (by omega)])
theorem colF_step {xss : List (List Int)} {n k q : Nat} (hk : k < n) (hq : q < n) : setM (sqM (colF xss k q) n n) q k (atM xss k q) = sqM (colF xss k (q+1)) n n := by
  rw [setM_sq hq hk]
  refine sqM_congr (fun a ha b hb => ?_)
  rw [colF, colF]
  by_cases h : a = q ∧ b = k
  · obtain ⟨rfl, rfl⟩ := h
    rw [if_pos ⟨rfl, rfl⟩, if_pos (.inr ⟨rfl, by omega⟩)]
  · rw [if_neg h]
    by_cases h2 : b < k ∨ (b = k ∧ a < q)
    · rw [if_pos h2, if_pos (by omega)]
    · rw [if_neg h2, if_neg (by omega)]
set_option maxRecDepth 100000 in
set_option maxHeartbeats 1000000 in
theorem columnsOf_any (a : Option Addr) (xss : List (List Int)) (cap : Nat) (w : World) (hx : RdS w a xss) (h12 : xss.length ≤ 12) (hl : ∀ k, k < xss.length → (rowL xss k).length = xss.length) :
    Calls Try.prog 107 #[.agg #[.slice a xss.length cap]] w fun e w' => ∃ g vl, e = .returned (.slice (some ⟨g, 0, none⟩) xss.length xss.length) ∧ RowsP w' w.heap.size (.slice (some ⟨g, 0, none⟩) xss.length xss.length) vl (colsL xss) ∧ Below w.heap.size w w' := by
  have hlen := hx.len
  have HX := Lib.hid hx
  have HL := Lib.hid hl
  clear hx hl
  go_enter Try.func107, Try.ntmps107
  go_wp2_with fail
  refine (zeroRows_any xss.length _ h12).mono ?_
  rintro e w1 ⟨g, vl0, rfl, hro0, hb0⟩
  have b1 : Below w.heap.size w w1 := Below.trans (by repeat (first | exact Below.refl _ _ | assumption | refine Below.alloc ?_ (by first | exact Nat.le_refl _ | (simp only [World.size_alloc, World.size_setCell, World.size_drew]; omega) | omega) _ | refine Below.setCell ?_ (by first | exact Nat.le_refl _ | (simp only [World.size_alloc, World.size_setCell, World.size_drew]; omega) | omega) _ | refine Below.drew ?_)) (hb0.mono (by first | (simp only [World.size_alloc, World.size_setCell, World.size_drew]; omega) | omega))
  have hro1 := hro0.mono (B' := w.heap.size) (by simp)
  rw [colF_zero (xss := xss)] at hro1
  have hc0 := (hb0.cell (p := ⟨w.heap.size, 0, none⟩) (by simp)).trans (show _ = some (Value.slice a xss.length cap) by simp)
  have hs1 := b1.size
  obtain ⟨N, hN⟩ : ∃ N, N = xss.length := ⟨_, rfl⟩
  have HN := Lib.hid hN
  rw [← hN] at hlen h12 hro1 hc0 ⊢
  have HRO := Lib.hid hro1
  clear hro0 hro1 hb0 hN
  go_wp2_with fail
  go_loopw [15] (fun i wr => ∃ (k : Nat) (vl : List Value), k ≤ N ∧ i = .int .i64 k ∧ RowsP wr w.heap.size (.slice (some ⟨g, 0, none⟩) N N) vl (sqM (colF xss k 0) N N) ∧ Below w.heap.size w wr) (fun i _ => N - (intOf i).toNat)
  case atStart => exact ⟨0, _, Nat.zero_le _, rfl, HRO.out, b1⟩
  case round =>
    obtain ⟨k, vl, hk, rfl, hro, hb⟩ := hrel
    have hbs := hb.size
    have HR := Lib.hid hro
    clear hro
    by_cases hlt : k < N
    · obtain ⟨b, off, a', cap', rfl, hbl, hc, hr⟩ := HX.out.row k (by rw [← HN.out]; exact hlt)
      have hrn := HL.out k (by rw [← HN.out]; exact hlt)
      rw [← HN.out] at hrn
      obtain ⟨b2, off2, rfl, hbl2, hc2⟩ := hr.cell 0 (by omega)
      rw [hrn] at hc
      have hc1 := (hb.cell (p := ⟨b, off + k, none⟩) hbl).trans hc
      have HRN := Lib.hid hrn
      have HRD := Lib.hid hr
      have hbl1 : b < wr.heap.size := by omega
      have k1 : (k : Int) < (N : Int) := by omega
      clear hrn hr hc2 hc
      go_wp2_with fail
      go_loopw [22] (fun i wq => ∃ (q : Nat) (vl : List Value), q ≤ N ∧ i = .int .i64 q ∧ RowsP wq w.heap.size (.slice (some ⟨g, 0, none⟩) N N) vl (sqM (colF xss k q) N N) ∧ Below w.heap.size w wq) (fun i _ => N - (intOf i).toNat)
      case atStart => exact ⟨0, _, Nat.zero_le _, rfl, HR.out, hb⟩
      case round =>
        obtain ⟨q, vl2, hq, rfl, hro2, hb2⟩ := hrel
        by_cases hlt2 : q < N
        · obtain ⟨b3, off3, e3, hbl3, hc3⟩ := (HRD.out.below hb2).cell q (by rw [HRN.out]; exact hlt2)
          simp only [Option.some.injEq, Addr.mk.injEq, and_true] at e3
          obtain ⟨rfl, rfl⟩ := e3
          obtain ⟨g4, e4, hg4, hg5, hc4, hf4⟩ := hro2.outer (k := q) (by rw [sqM_len]; exact hlt2)
          simp only [Option.some.injEq, Addr.mk.injEq, and_true] at e4
          subst e4
          obtain ⟨g6, c6, e6, hg6, hg7, hc6, hf6, hnew⟩ := hro2.num (i := q) (j := k) (by rw [sqM_len]; exact hlt2) (by rw [sqM_rlen hlt2]; exact hlt)
          have hn2 := hnew (atM xss k q)
          rw [colF_step hlt hlt2] at hn2
          rw [e6, sqM_rlen hlt2] at hc4
          have HN2 := Lib.hid hn2
          have q1 : (q : Int) < (N : Int) := by omega
          have hat : nth (rowL xss k) q = atM xss k q := rfl
          rw [hat] at hc3
          have b7 := hb2.setCell (p := ⟨g6, k, none⟩) hg6 (.int .i64 (atM xss k q))
          clear hro2 hnew hn2 hat e6
          go_wp2_with fail
          go_roundw
          case rel => exact ⟨q + 1, vl2, by omega, by go_num, HN2.out, b7⟩
          case measure => simp [intOf]; omega
        · obtain rfl : q = N := by omega
          rw [colF_next] at hro2
          go_wp2_with fail
          go_roundw
          case rel => exact ⟨k + 1, _, by omega, by go_num, hro2, hb2⟩
          case measure => simp [intOf]; omega
    · obtain rfl : k = N := by omega
      have HR2 := HR.out
      rw [colF_end] at HR2
      have HE : Hid (colsL xss = sqM (fun a b => atM xss b a) k k) := by rw [Hid, colsL_sq, ← HN.out]
      have HR3 := Lib.hid HR2
      clear HR2
      go_wp2_with fail
      go_ret
      exact ⟨g, vl, by rw [← HN.out]; rfl, by rw [HE.out, ← HN.out]; exact HR3.out, hb⟩

theorem totS_sq {f : Nat → Nat → Int} {n m : Nat} : ∀ {k : Nat}, k ≤ n → totS (sqM f n m) k = k * m
  | 0, _ => by simp [totS]
  | k+1, h => by rw [totS, totS_sq (by omega), sqM_rlen (by omega), Nat.succ_mul]
theorem sq_small {f : Nat → Nat → Int} {n : Nat} (h : n ≤ 13) : (sqM f n n).length + totS (sqM f n n) (sqM f n n).length ≤ 1048576 := by
  rw [sqM_len, totS_sq (Nat.le_refl _)]
  have := Nat.mul_le_mul h h
  omega
set_option maxRecDepth 100000 in
set_option maxHeartbeats 1000000 in
theorem rowsOf_any (a : Option Addr) (xss : List (List Int)) (cap : Nat) (w : World) (hx : RdC w a xss) (hs : xss.length + totS xss xss.length ≤ 1048576) :
    Calls Try.prog 76 #[.agg #[.slice a xss.length cap]] w fun e w' => ∃ s va vn vc, e = .returned (.tuple #[.agg #[.int .i64 s, .slice va vn vc], .bool (mxB xss)]) ∧ (mxB xss = true → s = matS xss xss.length ∧ ∃ vl, SumP w' w.heap.size (.slice va vn vc) vl xss) ∧ Below w.heap.size w w' := by
  have hlen := hx.rd.len
  have HX := Lib.hid hx
  have HS := Lib.hid hs
  clear hx hs
  go_enter Try.func76, Try.ntmps76
  obtain ⟨W0, hW0⟩ : ∃ x : World, x = (w.alloc (.cells #[.slice a xss.length cap] 29)).alloc (.cells #[.int .i64 0, .slice none 0 0] 103) := ⟨_, rfl⟩
  have HW0 := Lib.hid hW0
  have b0 : Below w.heap.size w W0 := by rw [hW0]; exact (by repeat (first | exact Below.refl _ _ | assumption | refine Below.alloc ?_ (by first | exact Nat.le_refl _ | (simp only [World.size_alloc, World.size_setCell, World.size_drew]; omega) | omega) _ | refine Below.setCell ?_ (by first | exact Nat.le_refl _ | (simp only [World.size_alloc, World.size_setCell, World.size_drew]; omega) | omega) _ | refine Below.drew ?_))
  have c0 : W0.cell? ⟨w.heap.size, 0, none⟩ = some (.slice a xss.length cap) := by rw [hW0]; simp
  have hR0 : Var2 W0 (w.heap.size + 1) (.int .i64 0) (.slice none 0 0) := by
    have h := Var2.new (w.alloc (.cells #[.slice a xss.length cap] 29)) (.int .i64 0) (.slice none 0 0) 103
    rw [World.size_alloc] at h
    rw [hW0]; exact h
  have hz0 : w.heap.size + 2 = W0.heap.size := by rw [hW0]; simp
  have HCALL := Lib.hid (iAddUp_any a xss cap W0 (HX.out.below b0).rd HS.out)
  rw [hW0] at HCALL
  clear hW0
  go_wp2_with fail
  refine HCALL.out.mono ?_
  rintro e w1 ⟨s, va, vn, vc, rfl, hok, hb1⟩
  rw [← HW0.out] at hok hb1
  have b1 : Below w.heap.size w w1 := b0.trans (hb1.mono (by omega))
  have c1 := (hb1.cell (p := ⟨w.heap.size, 0, none⟩) (show w.heap.size < W0.heap.size by omega)).trans c0
  have hR1 := hR0.below hb1
  have hs1 := hb1.size
  clear hb1 b0 c0 hR0 HCALL HW0
  obtain ⟨W2, hW2⟩ : ∃ x : World, x = w1.alloc (.cells #[.int .i64 s, .slice va vn vc] 103) := ⟨_, rfl⟩
  have HW2 := Lib.hid hW2
  have bb2 : Below w1.heap.size w1 W2 := by rw [hW2]; exact (by repeat (first | exact Below.refl _ _ | assumption | refine Below.alloc ?_ (by first | exact Nat.le_refl _ | (simp only [World.size_alloc, World.size_setCell, World.size_drew]; omega) | omega) _ | refine Below.setCell ?_ (by first | exact Nat.le_refl _ | (simp only [World.size_alloc, World.size_setCell, World.size_drew]; omega) | omega) _ | refine Below.drew ?_))
  have b2 : Below w.heap.size w W2 := b1.trans (bb2.mono b1.size)
  have hA2 : Box2 W2 w1.heap.size (.int .i64 s) (.slice va vn vc) := by rw [hW2]; exact Box2.new _ _ _ _
  have hR2 := hR1.below bb2
  have c2 := (bb2.cell (p := ⟨w.heap.size, 0, none⟩) (show w.heap.size < w1.heap.size by omega)).trans c1
  have hs2 : w1.heap.size ≤ W2.heap.size := bb2.size
  clear hR1 c1
  subst hW2
  have ⟨zA2, cA2, dA2⟩ := hA2
  have ⟨⟨zR2, cR2, dR2⟩, fR2, gR2⟩ := hR2
  cases had : adB xss
  · have HF := Lib.hid had
    have HM : Hid (mxB xss = false) := by simp [Hid, mxB, had]
    clear had hok
    go_wp2_with fail
    have hR7 := hR2.set (.int .i64 s) (.slice va vn vc)
    have b7 := (b2.setCell (p := ⟨w.heap.size + 1, 0, none⟩) (by simp) (.int .i64 s)).setCell (p := ⟨w.heap.size + 1, 1, none⟩) (by simp) (.slice va vn vc)
    refine bodyPost_ret (v := .tuple #[.agg #[.int .i64 s, .slice va vn vc], .bool false]) (by have ⟨⟨_, q1, q2⟩, _, _⟩ := hR7; simp [results, Try.results76, go_sem, q1, q2]) rfl ?_
    exact ⟨s, va, vn, vc, by rw [HM.out], (by intro h; rw [HM.out] at h; cases h), b7⟩
  · have HF := Lib.hid had
    have HOK := Lib.hid (hok had)
    have h12 := adB_small had
    clear had hok
    have HUC := Lib.hid (isUpper_any a xss cap _ (HX.out.below b2))
    cases hup : upB xss
    · have HU := Lib.hid hup
      have HM : Hid (mxB xss = false) := by simp [Hid, mxB, hup]
      clear hup
      go_wp2_with fail
      refine HUC.out.mono ?_
      rintro e w3 ⟨rfl, hb3⟩
      rw [HU.out]
      have hA3 := hA2.below hb3
      have hR3 := hR2.below hb3
      have b3 := b2.trans (hb3.mono b2.size)
      have ⟨zA3, cA3, dA3⟩ := hA3
      have ⟨⟨zR3, cR3, dR3⟩, fR3, gR3⟩ := hR3
      clear hb3
      go_wp2_with fail
      have hR7 := hR3.set (.int .i64 s) (.slice va vn vc)
      have b7 := (b3.setCell (p := ⟨w.heap.size + 1, 0, none⟩) (by simp) (.int .i64 s)).setCell (p := ⟨w.heap.size + 1, 1, none⟩) (by simp) (.slice va vn vc)
      refine bodyPost_ret (v := .tuple #[.agg #[.int .i64 s, .slice va vn vc], .bool false]) (by have ⟨⟨_, q1, q2⟩, _, _⟩ := hR7; simp [results, Try.results76, go_sem, q1, q2]) rfl ?_
      exact ⟨s, va, vn, vc, by rw [HM.out], (by intro h; rw [HM.out] at h; cases h), b7⟩
    · have HU := Lib.hid hup
      have HL : Hid (∀ k, k < xss.length → (rowL xss k).length = xss.length) := fun k hk => (upB_iff.1 hup k hk).1
      have HM : Hid (mxB xss = adB (colsL xss)) := by rw [Hid, mxB, HF.out, hup]; rfl
      clear hup
      go_wp2_with fail
      refine HUC.out.mono ?_
      rintro e w3 ⟨rfl, hb3⟩
      rw [HU.out]
      have hA3 := hA2.below hb3
      have hR3 := hR2.below hb3
      have b3 := b2.trans (hb3.mono b2.size)
      have hs3 : w1.heap.size ≤ w3.heap.size := by have := hb3.size; simp at this; omega
      have c3 := (hb3.cell (p := ⟨w.heap.size, 0, none⟩) (by simp; omega)).trans c2
      have ⟨zA3, cA3, dA3⟩ := hA3
      have ⟨⟨zR3, cR3, dR3⟩, fR3, gR3⟩ := hR3
      have bb3 : Below w1.heap.size w1 w3 := bb2.trans (hb3.mono (by simp))
      clear hb3
      go_wp2_with fail
      refine (columnsOf_any a xss cap _ (HX.out.below b3).rd h12 HL.out).mono ?_
      rintro e w4 ⟨g, vlc, rfl, hro, hb4⟩
      have hA4 := hA3.below hb4
      have hR4 := hR3.below hb4
      have b4 := b3.trans (hb4.mono b3.size)
      have hs4 : w3.heap.size ≤ w4.heap.size := hb4.size
      have ⟨zA4, cA4, dA4⟩ := hA4
      have ⟨⟨zR4, cR4, dR4⟩, fR4, gR4⟩ := hR4
      have hAU := iAddUp_any (some ⟨g, 0, none⟩) (colsL xss) xss.length w4 hro.o.rd (by rw [colsL_sq]; exact sq_small (by omega))
      rw [← HM.out, colsL_len] at hAU
      have HAU := Lib.hid hAU
      have bb4 : Below w1.heap.size w1 w4 := bb3.trans (hb4.mono hs3)
      clear hb4 hro hAU
      go_wp2_with fail
      refine HAU.out.mono ?_
      rintro e w5 ⟨s5, va5, vn5, vc5, rfl, _, hb5⟩
      have hA5 := hA4.below hb5
      have hR5 := hR4.below hb5
      have b5 := b4.trans (hb5.mono b4.size)
      have bb5 : Below w1.heap.size w1 w5 := bb4.trans (hb5.mono (by omega))
      have ⟨zA5, cA5, dA5⟩ := hA5
      have ⟨⟨zR5, cR5, dR5⟩, fR5, gR5⟩ := hR5
      have hs5 : w4.heap.size ≤ w5.heap.size := hb5.size
      clear hb5
      go_wp2_with fail
      have hR7 := hR5.set (.int .i64 s) (.slice va vn vc)
      have b7 := (b5.setCell (p := ⟨w.heap.size + 1, 0, none⟩) (by simp) (.int .i64 s)).setCell (p := ⟨w.heap.size + 1, 1, none⟩) (by simp) (.slice va vn vc)
      refine bodyPost_ret (v := .tuple #[.agg #[.int .i64 s, .slice va vn vc], .bool (mxB xss)]) (by have ⟨⟨_, q1, q2⟩, _, _⟩ := hR7; simp [results, Try.results76, go_sem, q1, q2]) rfl ?_
      refine ⟨s, va, vn, vc, rfl, fun _ => ⟨HOK.out.1, ?_⟩, b7⟩
      obtain ⟨vl, hp⟩ := HOK.out.2
      have hp5 := hp.below bb5 (Nat.le_refl _)
      have hset : ∀ (p : Addr) (u : Value) (w9 : World), p.block = w.heap.size + 1 → SumP w9 W0.heap.size (.slice va vn vc) vl xss → SumP (w9.setCell p u) W0.heap.size (.slice va vn vc) vl xss := fun p u w9 e h =>
        ⟨ownsRow_setCell_below h.own (by rw [e]; omega) u, h.vlen, fun k hk => (h.row k hk).setBelow (by rw [e]; omega) u, h.apart, h.pair⟩
      exact ⟨vl, (hset _ _ _ rfl (hset _ _ _ rfl hp5)).mono (by omega)⟩

theorem iIsMatrix_any (a : Option Addr) (xss : List (List Int)) (cap : Nat) (w : World) (hx : RdC w a xss) (hs : xss.length + totS xss xss.length ≤ 1048576) :
    Calls Try.prog 58 #[.agg #[.slice a xss.length cap]] w fun e w' => e = .returned (.bool (mxB xss)) ∧ Below w.heap.size w w' := by
  have hlen := hx.rd.len
  go_enter Try.func58, Try.ntmps58
  go_wp2_with fail
  refine (rowsOf_any _ _ _ _ (hx.below (by repeat (first | exact Below.refl _ _ | assumption | refine Below.alloc ?_ (by first | exact Nat.le_refl _ | (simp only [World.size_alloc, World.size_setCell, World.size_drew]; omega) | omega) _ | refine Below.setCell ?_ (by first | exact Nat.le_refl _ | (simp only [World.size_alloc, World.size_setCell, World.size_drew]; omega) | omega) _ | refine Below.drew ?_))) hs).mono ?_
  rintro e w1 ⟨s, va, vn, vc, rfl, _, hb⟩
  have b1 : Below w.heap.size w w1 := Below.trans (by repeat (first | exact Below.refl _ _ | assumption | refine Below.alloc ?_ (by first | exact Nat.le_refl _ | (simp only [World.size_alloc, World.size_setCell, World.size_drew]; omega) | omega) _ | refine Below.setCell ?_ (by first | exact Nat.le_refl _ | (simp only [World.size_alloc, World.size_setCell, World.size_drew]; omega) | omega) _ | refine Below.drew ?_)) (hb.mono (by first | (simp only [World.size_alloc, World.size_setCell, World.size_drew]; omega) | omega))
  clear hb
  go_wp2_with fail
  go_ret
  exact ⟨rfl, b1.alloc b1.size _⟩

theorem isBefore_any (x y x' y' : Int) (w : World) :
    Calls Try.prog 91 #[.agg #[.int .i64 x, .int .i64 y], .agg #[.int .i64 x', .int .i64 y']] w fun e w' => e = .returned (.bool (decide (y < x'))) ∧ Below w.heap.size w w' := by
  by_cases h : y < x'
  all_goals
    go_enter Try.func91, Try.ntmps91
    go_wp2
    go_ret
    exact ⟨ret_bool (by simp [h]), (by repeat (first | exact Below.refl _ _ | assumption | refine Below.alloc ?_ (by first | exact Nat.le_refl _ | (simp only [World.size_alloc, World.size_setCell, World.size_drew]; omega) | omega) _ | refine Below.setCell ?_ (by first | exact Nat.le_refl _ | (simp only [World.size_alloc, World.size_setCell, World.size_drew]; omega) | omega) _ | refine Below.drew ?_))⟩

theorem cmpBefore_any (a : Option Addr) (cs : List Int) (n cap : Nat) (x y : Int) (w : World) (hx : Rd w a cs) (hl : cs.length = n * 2) (hn : n ≤ 10) :
    Calls Try.prog 90 #[.slice a n cap, .agg #[.int .i64 x, .int .i64 y], .func (.func 91) #[] #[]] w fun e w' => e = .returned (.int .i64 (befTo cs y n)) ∧ Below w.heap.size w w' := by
  have HL := Lib.hid hl
  clear hl
  go_enter Try.func90, Try.ntmps90
  go_wp2_with fail
  go_loopw [7, 12] (fun s i wr => ∃ k : Nat, k ≤ n ∧ i = .int .i64 k ∧ s = .int .i64 (befTo cs y k) ∧ Below w.heap.size w wr ∧ Box2 wr w.heap.size (.int .i64 x) (.int .i64 y)) (fun _ i _ => n - (intOf i).toNat)
  case atStart => exact ⟨0, Nat.zero_le _, rfl, rfl, (by repeat (first | exact Below.refl _ _ | assumption | refine Below.alloc ?_ (by first | exact Nat.le_refl _ | (simp only [World.size_alloc, World.size_setCell, World.size_drew]; omega) | omega) _ | refine Below.setCell ?_ (by first | exact Nat.le_refl _ | (simp only [World.size_alloc, World.size_setCell, World.size_drew]; omega) | omega) _ | refine Below.drew ?_)), Box2.new w _ _ _⟩
  case round =>
    obtain ⟨k, hk, rfl, rfl, hb, hB⟩ := hrel
    have ⟨zB, cB, dB⟩ := hB
    have hzr := hb.size
    by_cases hlt : k < n
    · obtain ⟨b, off, rfl, hbl, hc1, hc2⟩ := (hx.below hb).pair HL.out hlt
      have hbs := befTo_small cs y (k := k) (by omega)
      have hor := Lib.hid (or_bit (b := befTo cs y k) (k := k) (by omega) (by omega))
      clear hbs
      by_cases hlt2 : y < lft cs k
      · have HS : Hid (befTo cs y (k+1) = befTo cs y k ||| 2 ^ k) := by rw [Hid, befTo, if_pos hlt2]
        have hd : decide (y < lft cs k) = true := by simp [hlt2]
        clear hlt2
        go_wp2_with fail
        refine (isBefore_any _ _ _ _ _).mono ?_
        rw [hd]
        rintro e w2 ⟨rfl, hb2⟩
        have ht2 : Below wr.heap.size wr w2 := Below.trans (by repeat (first | exact Below.refl _ _ | assumption | refine Below.alloc ?_ (by first | exact Nat.le_refl _ | (simp only [World.size_alloc, World.size_setCell, World.size_drew]; omega) | omega) _ | refine Below.setCell ?_ (by first | exact Nat.le_refl _ | (simp only [World.size_alloc, World.size_setCell, World.size_drew]; omega) | omega) _ | refine Below.drew ?_)) (hb2.mono (by first | (simp only [World.size_alloc, World.size_setCell, World.size_drew]; omega) | omega))
        have bw2 := hb.trans (ht2.mono hb.size)
        have B2 := hB.below ht2
        clear hb2 cB dB hc1 hc2
        go_wp2_with fail
        go_roundw
        case rel => exact ⟨k + 1, by omega, by go_num, val_int (by rw [hor.out, HS.out]), bw2, B2⟩
        case measure => simp [intOf]; omega
      · have HS : Hid (befTo cs y (k+1) = befTo cs y k) := by rw [Hid, befTo, if_neg hlt2]
        have hd : decide (y < lft cs k) = false := by simp; omega
        clear hlt2
        go_wp2_with fail
        refine (isBefore_any _ _ _ _ _).mono ?_
        rw [hd]
        rintro e w2 ⟨rfl, hb2⟩
        have ht2 : Below wr.heap.size wr w2 := Below.trans (by repeat (first | exact Below.refl _ _ | assumption | refine Below.alloc ?_ (by first | exact Nat.le_refl _ | (simp only [World.size_alloc, World.size_setCell, World.size_drew]; omega) | omega) _ | refine Below.setCell ?_ (by first | exact Nat.le_refl _ | (simp only [World.size_alloc, World.size_setCell, World.size_drew]; omega) | omega) _ | refine Below.drew ?_)) (hb2.mono (by first | (simp only [World.size_alloc, World.size_setCell, World.size_drew]; omega) | omega))
        have bw2 := hb.trans (ht2.mono hb.size)
        have B2 := hB.below ht2
        clear hb2 cB dB hc1 hc2
        go_wp2_with fail
        go_roundw
        case rel => exact ⟨k + 1, by omega, by go_num, val_int (by rw [HS.out]), bw2, B2⟩
        case measure => simp [intOf]; omega
    · obtain rfl : k = n := by omega
      go_wp2_with fail
      go_ret
      exact ⟨rfl, hb⟩

theorem isWrong_any (x y : Int) (w : World) :
    Calls Try.prog 124 #[.agg #[.int .i64 x, .int .i64 y]] w fun e w' => e = .returned (.bool (wrongB x y)) ∧ Below w.heap.size w w' := by
  by_cases h1 : x < -1000
  · have H : Hid (wrongB x y = true) := by simp [Hid, wrongB, h1]
    go_enter Try.func124, Try.ntmps124
    go_wp2
    go_ret
    exact ⟨ret_bool H.out.symm, (by repeat (first | exact Below.refl _ _ | assumption | refine Below.alloc ?_ (by first | exact Nat.le_refl _ | (simp only [World.size_alloc, World.size_setCell, World.size_drew]; omega) | omega) _ | refine Below.setCell ?_ (by first | exact Nat.le_refl _ | (simp only [World.size_alloc, World.size_setCell, World.size_drew]; omega) | omega) _ | refine Below.drew ?_))⟩
  · by_cases h2 : y < x
    · have H : Hid (wrongB x y = true) := by simp [Hid, wrongB, h2]
      go_enter Try.func124, Try.ntmps124
      go_wp2
      go_ret
      exact ⟨ret_bool H.out.symm, (by repeat (first | exact Below.refl _ _ | assumption | refine Below.alloc ?_ (by first | exact Nat.le_refl _ | (simp only [World.size_alloc, World.size_setCell, World.size_drew]; omega) | omega) _ | refine Below.setCell ?_ (by first | exact Nat.le_refl _ | (simp only [World.size_alloc, World.size_setCell, World.size_drew]; omega) | omega) _ | refine Below.drew ?_))⟩
    · have H : Hid (wrongB x y = decide (1000 < y)) := by simp [Hid, wrongB, h1, h2]
      go_enter Try.func124, Try.ntmps124
      go_wp2
      go_ret
      exact ⟨ret_bool (by rw [H.out]), (by repeat (first | exact Below.refl _ _ | assumption | refine Below.alloc ?_ (by first | exact Nat.le_refl _ | (simp only [World.size_alloc, World.size_setCell, World.size_drew]; omega) | omega) _ | refine Below.setCell ?_ (by first | exact Nat.le_refl _ | (simp only [World.size_alloc, World.size_setCell, World.size_drew]; omega) | omega) _ | refine Below.drew ?_))⟩

/-- the first wrong pair, or -1 -/
def idxW (cs : List Int) (n : Nat) : Int := match (List.range n).find? (fun k => wrongB (lft cs k) (rgt cs k)) with | some k => (k : Int) | none => -1
theorem idxW_at {cs : List Int} {n k : Nat} (hk : k < n) (h : wrongB (lft cs k) (rgt cs k) = true) (hb : ∀ j, j < k → wrongB (lft cs j) (rgt cs j) = false) : idxW cs n = (k : Int) := by
  have : (List.range n).find? (fun k => wrongB (lft cs k) (rgt cs k)) = some k := by
    rw [List.find?_range_eq_some]
    exact ⟨h, by simpa using hk, fun j hj => by simp [hb j hj]⟩
  rw [idxW, this]
theorem idxW_none {cs : List Int} {n : Nat} (h : ∀ j, j < n → wrongB (lft cs j) (rgt cs j) = false) : idxW cs n = -1 := by
  have : (List.range n).find? (fun k => wrongB (lft cs k) (rgt cs k)) = none := by
    rw [List.find?_eq_none]
    intro x hx
    simp [h x (by simpa using hx)]
  rw [idxW, this]
theorem indexWrong_any (a : Option Addr) (cs : List Int) (n cap : Nat) (w : World) (hx : Rd w a cs) (hl : cs.length = n * 2) (hn : n ≤ 1048576) :
    Calls Try.prog 138 #[.slice a n cap, .func (.func 124) #[] #[]] w fun e w' => e = .returned (.int .i64 (idxW cs n)) ∧ Below w.heap.size w w' := by
  have HL := Lib.hid hl
  clear hl
  go_enter Try.func138, Try.ntmps138
  go_wp2_with fail
  go_loopw [8] (fun i wr => ∃ k : Nat, k ≤ n ∧ i = .int .i64 k ∧ (∀ j, j < k → wrongB (lft cs j) (rgt cs j) = false) ∧ Below w.heap.size w wr) (fun i _ => n - (intOf i).toNat)
  case atStart => exact ⟨0, Nat.zero_le _, rfl, fun j hj => by omega, Below.refl _ _⟩
  case round =>
    obtain ⟨k, hk, rfl, hall, hb⟩ := hrel
    have HA := Lib.hid hall
    clear hall
    by_cases hlt : k < n
    · obtain ⟨b, off, rfl, hbl, hc1, hc2⟩ := (hx.below hb).pair HL.out hlt
      cases hw : wrongB (lft cs k) (rgt cs k)
      · have HW := Lib.hid hw
        go_wp2_with fail
        refine (isWrong_any _ _ _).mono ?_
        rw [HW.out]
        rintro e w2 ⟨rfl, hb2⟩
        have bw2 := hb.trans (hb2.mono hb.size)
        go_wp2_with fail
        go_roundw
        case rel =>
          refine ⟨k + 1, by omega, by go_num, fun j hj => ?_, bw2⟩
          by_cases e : j = k
          · rw [e]; exact HW.out
          · exact HA.out j (by omega)
        case measure => simp [intOf]; omega
      · have HI := Lib.hid (idxW_at hlt hw HA.out)
        have HW := Lib.hid hw
        go_wp2_with fail
        refine (isWrong_any _ _ _).mono ?_
        rw [HW.out]
        rintro e w2 ⟨rfl, hb2⟩
        have bw2 := hb.trans (hb2.mono hb.size)
        go_wp2_with fail
        go_ret
        exact ⟨ret_int HI.out.symm, bw2⟩
    · obtain rfl : k = n := by omega
      have HI := Lib.hid (idxW_none HA.out)
      go_wp2_with fail
      go_ret
      exact ⟨ret_int HI.out.symm, hb⟩
theorem containsWrong_any (a : Option Addr) (cs : List Int) (n cap : Nat) (w : World) (hx : Rd w a cs) (hl : cs.length = n * 2) (hn : n ≤ 1048576) :
    Calls Try.prog 123 #[.slice a n cap, .func (.func 124) #[] #[]] w fun e w' => e = .returned (.bool (decide (0 ≤ idxW cs n))) ∧ Below w.heap.size w w' := by
  go_enter Try.func123, Try.ntmps123
  go_wp2_with fail
  refine (indexWrong_any _ _ _ _ _ hx hl hn).mono ?_
  rintro e w2 ⟨rfl, hb2⟩
  clear hl
  go_wp2_with fail
  go_ret
  exact ⟨rfl, hb2⟩
theorem good_idx {cs : List Int} {n : Nat} (h : n ≤ 10) : goodV cs n = !decide (0 ≤ idxW cs n) := by
  cases hg : goodV cs n
  · have h1 : ∃ k, k < n ∧ wrongB (lft cs k) (rgt cs k) = true := by
      apply Classical.byContradiction
      intro hne
      have : goodV cs n = true := goodV_iff.2 ⟨h, fun k hk => by
        cases hw : wrongB (lft cs k) (rgt cs k)
        · rfl
        · exact absurd ⟨k, hk, hw⟩ hne⟩
      rw [hg] at this; cases this
    unfold idxW
    cases hf : (List.range n).find? (fun k => wrongB (lft cs k) (rgt cs k)) with
    | none =>
      obtain ⟨k, hk, hw⟩ := h1
      rw [List.find?_eq_none] at hf
      exact absurd hw (hf k (by simpa using hk))
    | some k => simp
  · rw [idxW_none (goodV_iff.1 hg).2]; rfl

theorem iAreIntervals_any (a : Option Addr) (cs : List Int) (n cap : Nat) (w : World) (hx : Rd w a cs) (hl : cs.length = n * 2) (hn : n ≤ 1048576) :
    Calls Try.prog 89 #[.slice a n cap] w fun e w' => e = .returned (.bool (goodV cs n)) ∧ Below w.heap.size w w' := by
  by_cases h : n ≤ 10
  · have H := Lib.hid (good_idx (cs := cs) h)
    have HL := Lib.hid hl
    clear hl
    go_enter Try.func89, Try.ntmps89
    go_wp2_with fail
    refine (containsWrong_any _ _ _ _ _ hx HL.out hn).mono ?_
    rintro e w2 ⟨rfl, hb2⟩
    go_wp2_with fail
    go_ret
    exact ⟨ret_bool (by rw [H.out]), hb2⟩
  · have H := Lib.hid (goodV_big (cs := cs) (n := n) (by omega))
    clear hl
    go_enter Try.func89, Try.ntmps89
    go_wp2_with fail
    go_ret
    exact ⟨ret_bool H.out.symm, Below.refl _ _⟩

/-- one step of the closing: what is above k goes to i, if k is above i -/
def clStep (xs : List Int) (k i : Nat) : List Int := if hasB (nth xs i) k then xs.set i (((nth xs i).toNat ||| (nth xs k).toNat : Nat) : Int) else xs
def clRow (xs : List Int) (k : Nat) : Nat → List Int
  | 0 => xs
  | i+1 => clStep (clRow xs k i) k i
def clAll (xs : List Int) : Nat → List Int
  | 0 => xs
  | k+1 => clRow (clAll xs k) k xs.length
theorem clStep_len (xs : List Int) (k i : Nat) : (clStep xs k i).length = xs.length := by
  unfold clStep; split <;> simp
theorem clRow_len (xs : List Int) (k : Nat) : ∀ i, (clRow xs k i).length = xs.length
  | 0 => rfl
  | i+1 => by rw [clRow, clStep_len, clRow_len xs k i]
theorem clAll_len (xs : List Int) : ∀ k, (clAll xs k).length = xs.length
  | 0 => rfl
  | k+1 => by rw [clAll, clRow_len, clAll_len xs k]
/-- all numbers of a list are sets below 1024 -/
def Small (xs : List Int) : Prop := ∀ k, k < xs.length → 0 ≤ nth xs k ∧ nth xs k < 1024
theorem nth_set {xs : List Int} {i j : Nat} {x : Int} (hi : i < xs.length) : nth (xs.set i x) j = if i = j then x else nth xs j := by
  simp only [nth, List.getD_eq_getElem?_getD, List.getElem?_set]
  by_cases h : i = j
  · subst h; simp [hi]
  · simp [h]
theorem clStep_small {xs : List Int} (h : Small xs) {k i : Nat} (hk : k < xs.length) (hi : i < xs.length) : Small (clStep xs k i) := by
  unfold clStep
  split
  · intro j hj
    rw [nth_set hi]
    have h1 := h i hi
    have h2 := h k hk
    split
    · have : (nth xs i).toNat ||| (nth xs k).toNat < 2 ^ 10 := or_lt (by omega) (by omega)
      omega
    · exact h j (by simpa using hj)
  · exact h
theorem clRow_small {xs : List Int} (h : Small xs) {k : Nat} (hk : k < xs.length) : ∀ i, i ≤ xs.length → Small (clRow xs k i)
  | 0, _ => h
  | i+1, hi => clStep_small (clRow_small h hk i (by omega)) (by rw [clRow_len]; exact hk) (by rw [clRow_len]; omega)
theorem clAll_small {xs : List Int} (h : Small xs) : ∀ k, k ≤ xs.length → Small (clAll xs k)
  | 0, _ => h
  | k+1, hk => clRow_small (clAll_small h k (by omega)) (by rw [clAll_len]; omega) _ (by rw [clAll_len]; omega)
theorem RelP.sm {n : Int} {xs : List Int} (h : RelP n xs) : Small xs := fun k hk => ⟨h.pos k hk, h.small k hk⟩
theorem set_ints (xs : List Int) (i : Nat) (x : Int) : (xs.map (Value.int .i64)).set i (.int .i64 x) = (xs.set i x).map (Value.int .i64) := by
  rw [List.map_set]
/-- a store into an owned row -/
theorem OwnI.put {w : World} {B g n cap : Nat} {xs : List Int} (h : OwnI w B (.slice (some ⟨g, 0, none⟩) n cap) xs) (hn : n = xs.length) (i : Nat) (x : Int) :
    OwnI (w.setCell ⟨g, i, none⟩ (.int .i64 x)) B (.slice (some ⟨g, 0, none⟩) n cap) (xs.set i x) ∧ w.grownBy (w.setCell ⟨g, i, none⟩ (.int .i64 x)) (some g) := by
  subst hn
  have hst := World.ownsRow.stored h i (.int .i64 x)
  rw [set_ints] at hst
  refine ⟨?_, hst.2⟩
  unfold OwnI
  rw [List.length_set]
  exact hst.1
theorem OwnI.at' {w : World} {B g n cap : Nat} {xs : List Int} (h : OwnI w B (.slice (some ⟨g, 0, none⟩) n cap) xs) (hn : n = xs.length) {i : Nat} (hi : i < xs.length) :
    w.cell? ⟨g, i, none⟩ = some (.int .i64 (nth xs i)) ∧ w.frozen? ⟨g, i, none⟩ = false := by
  subst hn
  refine ⟨?_, World.ownsRow.frozenAt h i⟩
  rw [World.ownsRow.cellAt h i (by omega)]
  simp [nth, hi]
theorem OwnI.head {w : World} {B n cap : Nat} {a : Option Addr} {xs : List Int} (h : OwnI w B (.slice a n cap) xs) (hp : 0 < xs.length) : ∃ g, a = some ⟨g, 0, none⟩ ∧ B ≤ g ∧ g < w.heap.size := by
  rcases h.2 with ⟨e, h0⟩ | ⟨g, c, cur, e, hb, hg, _⟩
  · omega
  · simp only [Value.slice.injEq] at e
    exact ⟨g, e.1, hb, (Array.getElem?_eq_some_iff.1 hg).1⟩
def cloN (n : Int) (xs : List Int) : Int := if relB n xs then n else 0
def cloL (n : Int) (xs : List Int) : List Int := if relB n xs then clAll xs xs.length else []
theorem cloL_len (n : Int) (xs : List Int) : (cloL n xs).length ≤ 1048576 := by
  unfold cloL
  split
  · rename_i h
    have hp := relB_p h
    have := hp.len
    have := hp.n1
    rw [clAll_len]
    omega
  · simp

theorem iOrderOfIv_any (a : Option Addr) (cs : List Int) (n cap : Nat) (w : World) (hx : Rd w a cs) (hl : cs.length = n * 2) (hn : n ≤ 1048576) :
    Calls Try.prog 59 #[.slice a n cap] w (GotO w (ooN cs n) (ooL cs n) (goodV cs n)) := by
  obtain ⟨i0, hi, hz0, hz1, hz2⟩ := info_parts infoInt
  have HL := Lib.hid hl
  clear hl
  have hx1 := hx.alloc (.cells #[.int .i64 0, .slice none 0 0] 41)
  cases hg : goodV cs n
  · have H1 : Hid (ooN cs n = 0) := by simp [Hid, ooN, hg]
    have H2 : Hid (ooL cs n = []) := by simp [Hid, ooL, hg]
    have HG := Lib.hid hg
    clear hg
    go_enter Try.func59, Try.ntmps59
    go_wp2_with fail
    refine (iAreIntervals_any _ _ _ _ _ hx1 HL.out hn).mono ?_
    rw [HG.out]
    rintro e w1 ⟨rfl, hb1⟩
    have R1 : Var2 w1 w.heap.size (.int .i64 0) (.slice none 0 0) := (Var2.new w _ _ _).below hb1
    have ⟨⟨zR, cR, dR⟩, fR, gR⟩ := R1
    have bw1 : Below w.heap.size w w1 := Below.trans (by repeat (first | exact Below.refl _ _ | assumption | refine Below.alloc ?_ (by first | exact Nat.le_refl _ | (simp only [World.size_alloc, World.size_setCell, World.size_drew]; omega) | omega) _ | refine Below.setCell ?_ (by first | exact Nat.le_refl _ | (simp only [World.size_alloc, World.size_setCell, World.size_drew]; omega) | omega) _ | refine Below.drew ?_)) (hb1.mono (by first | (simp only [World.size_alloc, World.size_setCell, World.size_drew]; omega) | omega))
    clear hb1
    go_wp2_with fail
    have R3 := R1.set (.int .i64 0) (.slice none 0 0)
    refine bodyPost_ret (v := .tuple #[.agg #[.int .i64 0, .slice none 0 0], .bool false]) (by have ⟨⟨_, q1, q2⟩, _, _⟩ := R3; simp [results, Try.results59, go_sem, q1, q2]) rfl ?_
    refine ⟨none, 0, ?_, ?_, ?_⟩
    · rw [H1.out, H2.out]; rfl
    · rw [H2.out]; exact OwnI.nil _ _
    · exact (bw1.setCell (by simp) _).setCell (by simp) _
  · have ⟨hn10, hbd⟩ := goodV_iff.1 hg
    have H1 : Hid (ooN cs n = (n : Int)) := by simp [Hid, ooN, hg]
    have H2 : Hid (ooL cs n = ivo cs n n) := by simp [Hid, ooL, hg]
    have HG := Lib.hid hg
    clear hg hbd
    go_enter Try.func59, Try.ntmps59
    go_wp2_with fail
    refine (iAreIntervals_any _ _ _ _ _ hx1 HL.out hn).mono ?_
    rw [HG.out]
    rintro e w1 ⟨rfl, hb1⟩
    have R1 : Var2 w1 w.heap.size (.int .i64 0) (.slice none 0 0) := (Var2.new w _ _ _).below hb1
    have bw1 : Below w.heap.size w w1 := Below.trans (by repeat (first | exact Below.refl _ _ | assumption | refine Below.alloc ?_ (by first | exact Nat.le_refl _ | (simp only [World.size_alloc, World.size_setCell, World.size_drew]; omega) | omega) _ | refine Below.setCell ?_ (by first | exact Nat.le_refl _ | (simp only [World.size_alloc, World.size_setCell, World.size_drew]; omega) | omega) _ | refine Below.drew ?_)) (hb1.mono (by first | (simp only [World.size_alloc, World.size_setCell, World.size_drew]; omega) | omega))
    have hz1' : w.heap.size + 1 ≤ w1.heap.size := by have := R1.1.1; omega
    clear hb1
    go_wp2_with (at_make; refine wpList_make_full _ rfl (.tmp 12) (.tmp 12) 26 rfl (w.heap.size + 1) 3 i0 (.int .i64 0) 1 Try.underlying26 hi hz0 hz1 .i64 .i64 _ _ n rfl rfl rfl rfl (by rw [hz2]; omega) (by unfold maxLen; omega) hz1' ?_; intro w2 hown hgrow)
    have R2 := R1.kept hgrow (by simp)
    have hb2 : Below w.heap.size w w2 := bw1.grown hgrow bw1.size (fun k h => by cases h)
    have hown0 := made_row (ivE cs n) hown
    obtain ⟨g, hg⟩ : ∃ g, g = w1.heap.size := ⟨_, rfl⟩
    rw [← hg] at hown0 ⊢
    have hgz : w.heap.size + 1 ≤ g := by omega
    clear hown hgrow R1 hg
    go_wp2_with fail
    go_loopw [16] (fun i wr => ∃ k : Nat, k ≤ n ∧ i = .int .i64 k ∧ OwnI wr (w.heap.size + 1) (.slice (some ⟨g, 0, none⟩) n n) (rowF (ivE cs n) n k) ∧ Below w.heap.size w wr ∧ Var2 wr w.heap.size (.int .i64 0) (.slice none 0 0)) (fun i _ => n - (intOf i).toNat)
    case atStart => exact ⟨0, Nat.zero_le _, rfl, hown0, hb2, R2⟩
    case round =>
      obtain ⟨k, hk, rfl, hown, hb, hR⟩ := hrel
      have hzr := hb.size
      by_cases hlt : k < n
      · obtain ⟨b, off, rfl, hbl, hc1, hc2⟩ := (hx.below hb).pair HL.out hlt
        have k0 : (0 : Int) ≤ (k : Int) := by omega
        have k1 : (k : Int) < (n : Int) := by omega
        go_wp2_with fail
        refine (cmpBefore_any _ _ _ _ _ _ _ ((hx.below hb).alloc _) HL.out hn10).mono ?_
        rintro e w3 ⟨rfl, hb3⟩
        have ht3 : Below wr.heap.size wr w3 := Below.trans (by repeat (first | exact Below.refl _ _ | assumption | refine Below.alloc ?_ (by first | exact Nat.le_refl _ | (simp only [World.size_alloc, World.size_setCell, World.size_drew]; omega) | omega) _ | refine Below.setCell ?_ (by first | exact Nat.le_refl _ | (simp only [World.size_alloc, World.size_setCell, World.size_drew]; omega) | omega) _ | refine Below.drew ?_)) (hb3.mono (by first | (simp only [World.size_alloc, World.size_setCell, World.size_drew]; omega) | omega))
        have o3 := hown.below ht3 (Nat.le_refl _)
        have bw3 := hb.trans (ht3.mono hb.size)
        have R3 := hR.below ht3
        have hrl := rowF_len (ivE cs n) hk
        have ⟨ci, fi⟩ := o3.at' hrl.symm (i := k) (by omega)
        have hput := o3.put hrl.symm k (ivE cs n k)
        rw [rowF_set _ hlt] at hput
        have HP := Lib.hid hput.1
        have R4 := R3.kept hput.2 (by simp; omega)
        have bw4 := bw3.setCell (p := ⟨g, k, none⟩) (show w.heap.size ≤ g by omega) (.int .i64 (ivE cs n k))
        have HE : Hid (((befTo cs (rgt cs k) n : Nat) : Int) = ivE cs n k) := rfl
        rw [HE.out]
        clear hput hrl hown o3 hb3 hc1 hc2 R3
        go_wp2_with fail
        go_roundw
        case rel => exact ⟨k + 1, by omega, by go_num, HP.out, bw4, R4⟩
        case measure => simp [intOf]; omega
      · obtain rfl : k = n := by omega
        rw [rowF_end] at hown
        have ho : OwnI wr (w.heap.size + 1) (.slice (some ⟨g, 0, none⟩) k k) (ivo cs k k) := hown
        have ⟨⟨zR, cR, dR⟩, fR, gR⟩ := hR
        clear hown
        go_wp2_with fail
        have R3 := hR.set (.int .i64 (k : Int)) (.slice (some ⟨g, 0, none⟩) k k)
        refine bodyPost_ret (v := .tuple #[.agg #[.int .i64 (k : Int), .slice (some ⟨g, 0, none⟩) k k], .bool true]) (by have ⟨⟨_, q1, q2⟩, _, _⟩ := R3; simp [results, Try.results59, go_sem, q1, q2]) rfl ?_
        refine ⟨some ⟨g, 0, none⟩, k, ?_, ?_, ?_⟩
        · rw [H1.out, H2.out, ivo_len]
        · rw [H2.out, ivo_len]
          exact ((ho.setBelow (p := ⟨w.heap.size, 0, none⟩) (show w.heap.size < w.heap.size + 1 by omega) _).setBelow (p := ⟨w.heap.size, 1, none⟩) (show w.heap.size < w.heap.size + 1 by omega) _).mono (by omega)
        · exact (hb.setCell (p := ⟨w.heap.size, 0, none⟩) (Nat.le_refl _) _).setCell (p := ⟨w.heap.size, 1, none⟩) (Nat.le_refl _) _

set_option maxRecDepth 100000 in
set_option maxHeartbeats 1000000 in
theorem iMxO_any (a : Option Addr) (xss : List (List Int)) (cap : Nat) (w : World) (hx : RdC w a xss) (hs : xss.length + totS xss xss.length ≤ 1048576) :
    Calls Try.prog 27 #[.agg #[.slice a xss.length cap]] w (GotO w (omN xss) (omL xss) (omB xss)) := by
  have hlen := hx.rd.len
  have hV := Var2.new (w.alloc (.cells #[.slice a xss.length cap] 29)) (.int .i64 0) (.slice none 0 0) 41
  have hb0 : Below w.heap.size w ((w.alloc (.cells #[.slice a xss.length cap] 29)).alloc (.cells #[.int .i64 0, .slice none 0 0] 41)) := (by repeat (first | exact Below.refl _ _ | assumption | refine Below.alloc ?_ (by first | exact Nat.le_refl _ | (simp only [World.size_alloc, World.size_setCell, World.size_drew]; omega) | omega) _ | refine Below.setCell ?_ (by first | exact Nat.le_refl _ | (simp only [World.size_alloc, World.size_setCell, World.size_drew]; omega) | omega) _ | refine Below.drew ?_))
  have hA : Box1 ((w.alloc (.cells #[.slice a xss.length cap] 29)).alloc (.cells #[.int .i64 0, .slice none 0 0] 41)) w.heap.size (.slice a xss.length cap) := (Box1.new w _ _).below ((Below.refl _ _).alloc (Nat.le_refl _) _)
  rw [World.size_alloc] at hV
  have HCL := Lib.hid (fun W (h : RdC W a xss) => iIsMatrix_any a xss cap W h hs)
  cases hm : mxB xss
  · have HM := Lib.hid hm
    have H1 : Hid (omB xss = false) := by simp [Hid, omB, hm]
    have H2 : Hid (omN xss = 0) := by rw [Hid, omN, H1.out]; rfl
    have H3 : Hid (omL xss = []) := by rw [Hid, omL, H1.out]; rfl
    clear hm
    go_enter Try.func27, Try.ntmps27
    go_wp2_with fail
    refine (HCL.out _ (hx.below hb0)).mono ?_
    rintro e w1 ⟨rfl, hb⟩
    rw [HM.out]
    have b1 : Below w.heap.size w w1 := hb0.trans (hb.mono (by simp; omega))
    have hV1 := hV.below hb
    have ⟨⟨zV, cV, dV⟩, fV, gV⟩ := hV1
    clear hb hV
    go_wp2_with fail
    have hV2 := hV1.set (.int .i64 0) (.slice none 0 0)
    refine bodyPost_ret (v := .tuple #[.agg #[.int .i64 0, .slice none 0 0], .bool false]) (by have ⟨⟨_, q1, q2⟩, _, _⟩ := hV2; simp [results, Try.results27, go_sem, q1, q2]) rfl ?_
    exact got_no H2.out H3.out H1.out ((b1.setCell (p := ⟨w.heap.size + 1, 0, none⟩) (by simp) _).setCell (p := ⟨w.heap.size + 1, 1, none⟩) (by simp) _)
  · have HM := Lib.hid hm
    have h12 := mxB_small hm
    have HX := Lib.hid hx
    have HNUM : Hid (∀ i j, i < xss.length → j < xss.length → 0 ≤ atM xss i j ∧ atM xss i j ≤ 12) := fun i j hi hj => mxB_num hm hi hj
    have HL : Hid (∀ k, k < xss.length → (rowL xss k).length = xss.length) := fun k hk => mxB_len hm hk
    have HG : Hid (goodV (allPs xss xss.length) (omC xss) = omB xss) := by rw [Hid, om_good hm, omB, hm]; rfl
    have H2 : Hid (omN xss = ooN (allPs xss xss.length) (omC xss)) := by rw [Hid, omN, ooN, HG.out]
    have H3 : Hid (omL xss = ooL (allPs xss xss.length) (omC xss)) := by rw [Hid, omL, ooL, HG.out]
    have HLN := Lib.hid (om_len hm)
    have HC12 : Hid (omC xss ≤ 1048576) := by
      have h1 := (adB_iff.1 (mxB_iff.1 hm).1).2
      rw [Hid, omC]; omega
    have HBA : Hid (∀ k, k ≤ xss.length → (allPs xss k).length ≤ 288 * k) := fun k hk => allPs_big h12 (fun i hi q hq => mxB_num hm (by omega) hq)
    have HBR : Hid (∀ k, k < xss.length → ∀ q, q ≤ xss.length → (rowPs xss k (allPs xss k) q).length ≤ 3456) := fun k hk q hq => by
      have h1 := rowPs_big (xss := xss) (i := k) (cs := allPs xss k) (j := q) (fun i hi => mxB_num hm hk (by omega))
      have h2 := HBA.out k (by omega)
      omega
    clear hm hx
    go_enter Try.func27, Try.ntmps27
    go_wp2_with fail
    refine (HCL.out _ (HX.out.below hb0)).mono ?_
    rintro e w2 ⟨rfl, hb⟩
    rw [HM.out]
    have b2 : Below w.heap.size w w2 := hb0.trans (hb.mono (by simp; omega))
    have hV2 := hV.below hb
    have hA2 := hA.below hb
    have ⟨zA2, cA2⟩ := hA2
    have hz2 : w.heap.size + 2 ≤ w2.heap.size := by have h1 := hV2.1.1; omega
    have HV2 := Lib.hid hV2
    clear hb hV hA hb0 hV2 hA2 HCL
    go_wp2_with fail
    go_loopw [4, 16] (fun v i wr => ∃ (k c : Nat), k ≤ xss.length ∧ i = .int .i64 k ∧ OwnV wr w2.heap.size v c (allPs xss k) ∧ Below w2.heap.size w2 wr) (fun _ i _ => xss.length - (intOf i).toNat)
    case atStart => exact ⟨0, 0, Nat.zero_le _, rfl, OwnV.nil _ _, Below.refl _ _⟩
    case round =>
      obtain ⟨k, c, hk, rfl, hown, hb⟩ := hrel
      have hbs := hb.size
      by_cases hlt : k < xss.length
      · have k1 : (k : Int) < (xss.length : Int) := by omega
        obtain ⟨b0, off0, a', cap', rfl, hbl, hcw, hr⟩ := HX.out.rd.row k hlt
        have hrl := HL.out k hlt
        rw [hrl] at hcw
        have hc := ((b2.trans (hb.mono (by omega : w.heap.size ≤ w2.heap.size))).cell (p := ⟨b0, off0 + k, none⟩) hbl).trans hcw
        have hblr : b0 < wr.heap.size := by omega
        have HR := Lib.hid hr
        have HRL := Lib.hid hrl
        have HO := Lib.hid hown
        clear hr hrl hown hcw
        go_wp2_with fail
        go_loopw [4, 23] (fun v i wq => ∃ (q c : Nat), q ≤ xss.length ∧ i = .int .i64 q ∧ OwnV wq w2.heap.size v c (rowPs xss k (allPs xss k) q) ∧ Below w2.heap.size w2 wq) (fun _ i _ => xss.length - (intOf i).toNat)
        case atStart => exact ⟨0, c, Nat.zero_le _, rfl, HO.out, hb⟩
        case round =>
          obtain ⟨q, c2, hq, rfl, hown2, hb2⟩ := hrel
          by_cases hlt2 : q < xss.length
          · have q1 : (q : Int) < (xss.length : Int) := by omega
            obtain ⟨b3, off3, rfl, hbl3, hc3⟩ := (HR.out.below (b2.trans (hb2.mono (by omega)))).cell q (by rw [HRL.out]; exact hlt2)
            have ⟨n0, n1⟩ := HNUM.out k q hlt hlt2
            obtain ⟨X, hX⟩ := Int.eq_ofNat_of_zero_le n0
            have hXX : nth (rowL xss k) q = (X : Int) := hX
            rw [hXX] at hc3
            have HRW : Hid (rowPs xss k (allPs xss k) (q+1) = addP (rowPs xss k (allPs xss k) q) k q X) := by rw [Hid, rowPs, hX]; rfl
            have hX12 : X ≤ 12 := by omega
            have hbr := HBR.out k hlt q hq
            obtain ⟨CS, hCS⟩ : ∃ CS, CS = rowPs xss k (allPs xss k) q := ⟨_, rfl⟩
            rw [← hCS] at hown2 HRW hbr
            have HO2 := Lib.hid hown2
            clear hX hXX n0 n1 hCS hown2
            go_wp2_with fail
            go_loopw [4, 29] (fun v i wp => ∃ (t c : Nat), t ≤ X ∧ i = .int .i64 t ∧ OwnV wp w2.heap.size v c (addP CS k q t) ∧ Below w2.heap.size w2 wp) (fun _ i _ => X - (intOf i).toNat)
            case atStart => exact ⟨0, c2, Nat.zero_le _, rfl, HO2.out, hb2⟩
            case round =>
              obtain ⟨t, c4, ht, rfl, hown4, hb4⟩ := hrel
              have hb4s := hb4.size
              by_cases hlt4 : t < X
              · have x1 : (t : Int) < (X : Int) := by omega
                have hal := addP_big (cs := CS) (i := k) (j := q) (t := t) hbr (by omega)
                have hl4 := hown4.len
                have hc4 : c4 ≤ 1048576 := by omega
                have HO4 := Lib.hid hown4
                clear hown4 hl4
                go_wp2_with (at_builtin; refine push_iv rfl _ _ rfl rfl rfl HO4.out rfl hc4 (by omega) ?_)
                intro v5 w5 o5 hg5 _
                have hU := HO4.out.lt
                have b5 := hb4.trans (below_of_grown hg5 (fun c e => by have := (hU c e).1; omega) hb4s)
                clear hg5 hU
                go_wp2_with fail
                go_roundw
                case rel => exact ⟨t + 1, c4 + 1, by omega, by go_num, o5, b5⟩
                case measure => simp [intOf]; omega
              · obtain rfl : t = X := by omega
                have HE : Hid (addP CS k q t = rowPs xss k (allPs xss k) (q+1)) := HRW.out.symm
                rw [HE.out] at hown4
                go_wp2_with fail
                go_roundw
                case rel => exact ⟨q + 1, c4, by omega, by go_num, hown4, hb4⟩
                case measure => simp [intOf]; omega
          · obtain rfl : q = xss.length := by omega
            go_wp2_with fail
            go_roundw
            case rel => exact ⟨k + 1, c2, by omega, by go_num, hown2, hb2⟩
            case measure => simp [intOf]; omega
      · obtain rfl : k = xss.length := by omega
        have hl := hown.len
        rw [HLN.out] at hl
        obtain rfl : c = omC xss := by omega
        obtain ⟨av, cv, ev⟩ := hown.form
        subst ev
        have hrv := hown.rd HC12.out
        have HOV := Lib.hid (iOrderOfIv_any av (allPs xss xss.length) (omC xss) cv wr hrv HLN.out HC12.out)
        rw [← H2.out, ← H3.out, HG.out] at HOV
        have HV3 := Lib.hid (HV2.out.below hb)
        have bw := b2.trans (hb.mono (by omega))
        obtain ⟨C, hC⟩ : ∃ C, C = omC xss := ⟨_, rfl⟩
        rw [← hC] at HOV ⊢
        clear hown hrv hl hC H2 H3
        go_wp2_with fail
        refine HOV.out.mono ?_
        rintro e w6 ⟨a6, c6, rfl, ho6, hb6⟩
        have hV6 := HV3.out.below hb6
        have bw6 := bw.trans (hb6.mono bw.size)
        have ⟨⟨zR, cR, dR⟩, fR, gR⟩ := hV6
        have HO6 := Lib.hid ho6
        have hwr : w.heap.size + 2 ≤ wr.heap.size := by omega
        obtain ⟨L, hL⟩ : ∃ L, L = (omL xss).length := ⟨_, rfl⟩
        have HLL := Lib.hid hL
        obtain ⟨N, hN⟩ : ∃ N, N = omN xss := ⟨_, rfl⟩
        have HNN := Lib.hid hN
        rw [← hL] at HO6 ⊢
        rw [← hN]
        clear hb6 ho6 hL hN
        go_wp2_with fail
        have R5 := hV6.set (.int .i64 N) (.slice a6 L c6)
        refine bodyPost_ret (v := .tuple #[.agg #[.int .i64 N, .slice a6 L c6], .bool (omB xss)]) (by have ⟨⟨_, q1, q2⟩, _, _⟩ := R5; simp [results, Try.results27, go_sem, q1, q2]) rfl ?_
        refine ⟨a6, c6, by rw [HLL.out, HNN.out], ?_, ?_⟩
        · rw [← HLL.out]
          exact ((HO6.out.setBelow (p := ⟨w.heap.size + 1, 0, none⟩) (by show w.heap.size + 1 < wr.heap.size; omega) _).setBelow (p := ⟨w.heap.size + 1, 1, none⟩) (by show w.heap.size + 1 < wr.heap.size; omega) _).mono (by omega)
        · exact (bw6.setCell (p := ⟨w.heap.size + 1, 0, none⟩) (by simp) _).setCell (p := ⟨w.heap.size + 1, 1, none⟩) (by simp) _

theorem markIntS_any (a : Option Addr) (xs : List Int) (cap : Nat) (k : Int) (B : Nat) (w : World) (h0 : 0 ≤ k) (h1 : k ≤ 1099511627776) (hn : xs.length ≤ 1048576) (ho : OwnI w B (.slice a xs.length cap) xs) :
    Calls Try.prog 17 #[.slice a xs.length cap, .int .i64 k] w fun e w' => e = .returned (.int .i64 (k + xs.length)) ∧ OwnI w' B (.slice a xs.length cap) (marks k xs.length) ∧ w.grownBy w' (Value.slice a xs.length cap).ownBlock := by
  go_enter Try.func17, Try.ntmps17
  go_wp2_with fail
  go_loopw [1, 5] (fun k' i wr => ∃ j : Nat, j ≤ xs.length ∧ i = .int .i64 j ∧ k' = .int .i64 (k + j) ∧ wr.ownsRow B 3 1 (.slice a xs.length cap) xs.length ((marks k j ++ xs.drop j).map (Value.int .i64)) ∧ w.grownBy wr (Value.slice a xs.length cap).ownBlock) (fun _ i _ => xs.length - (intOf i).toNat)
  case atStart => exact ⟨0, Nat.zero_le _, rfl, by simp, by (have e : marks k 0 ++ xs.drop 0 = xs := by simp [marks]); rw [e]; exact ho, World.grownBy.refl _ _⟩
  case round =>
    obtain ⟨j, hj, rfl, rfl, hown, hg⟩ := hrel
    by_cases hlt : j < xs.length
    · obtain ⟨g, rfl⟩ : ∃ g, a = some ⟨g, 0, none⟩ := by
        rcases hown.2 with ⟨e, h⟩ | ⟨g, c, cur, e, _⟩
        · omega
        · simp only [Value.slice.injEq] at e
          exact ⟨g, e.1⟩
      have hst := World.ownsRow.stored hown j (.int .i64 (k + j))
      rw [mark_step k xs j hlt] at hst
      have hcc := World.ownsRow.cellAt hown j (by omega)
      have hfr := World.ownsRow.frozenAt hown j
      have hcc' : ∃ u, wr.cell? ⟨g, j, none⟩ = some u := by
        rw [hcc]
        exact ⟨_, List.getElem?_eq_getElem (by simp [marks_len]; omega)⟩
      obtain ⟨u, hu⟩ := hcc'
      have Hst := Lib.hid hst
      have Hg := Lib.hid (grown_trans hg hst.2)
      clear hst hcc hown hg
      go_wp2
      go_roundw
      case rel => exact ⟨j + 1, by omega, by go_num, by go_num, Hst.out.1, Hg.out⟩
      case measure => simp [intOf]; omega
    · obtain rfl : j = xs.length := by omega
      go_wp2
      go_ret
      refine ⟨rfl, ?_, hg⟩
      have e : marks k xs.length ++ xs.drop xs.length = marks k xs.length := by simp
      rw [e] at hown
      show World.ownsRow _ _ _ _ _ _ _
      rw [marks_len]
      exact hown

theorem markOrder_any (n : Int) (a : Option Addr) (xs : List Int) (cap : Nat) (k : Int) (B : Nat) (w : World) (h0 : 0 ≤ k) (h1 : k ≤ 1099511627776) (hn : xs.length ≤ 1048576) (ho : OwnI w B (.slice a xs.length cap) xs) :
    Calls Try.prog 24 #[.agg #[.int .i64 n, .slice a xs.length cap], .int .i64 k] w fun e w' => e = .returned (.int .i64 (k + xs.length)) ∧ OwnI w' B (.slice a xs.length cap) (marks k xs.length) ∧ w.grownBy w' (Value.slice a xs.length cap).ownBlock := by
  go_enter Try.func24, Try.ntmps24
  go_wp2_with fail
  refine (markIntS_any _ _ _ _ B _ h0 h1 hn (ho.alloc _)).mono ?_
  rintro e w1 ⟨rfl, ho1, hg1⟩
  go_wp2_with fail
  go_ret
  exact ⟨rfl, ho1, grown_alloc_set hg1⟩

theorem markIntSS_any (g : Nat) (vl : List Value) (xss : List (List Int)) (cap : Nat) (k : Int) (B lo hi : Nat) (w : World) (h0 : 0 ≤ k) (h1 : k ≤ 1048576) (hn : xss.length + totS xss xss.length ≤ 1048576) (ho : OwnS w B g vl xss) (hc : ∀ i, i < xss.length → ∀ c, (valAt vl i).ownBlock = some c → lo ≤ c ∧ c < hi) :
    Calls Try.prog 47 #[.slice (some ⟨g, 0, none⟩) xss.length cap, .int .i64 k] w fun e w' => e = .returned (.int .i64 (k + ((totS xss xss.length : Nat) : Int))) ∧ TouchS lo hi w w' := by
  have hmax := ho.max
  have HC := Lib.hid hc
  have HAP := Lib.hid ho.apart
  clear hc
  go_enter Try.func47, Try.ntmps47
  go_wp2_with fail
  go_loopw [1, 5] (fun k' i wr => ∃ j : Nat, j ≤ xss.length ∧ i = .int .i64 j ∧ k' = .int .i64 (k + ((totS xss j : Nat) : Int)) ∧ TouchS lo hi w wr ∧ g < wr.heap.size ∧ (∀ i, j ≤ i → i < xss.length → wr.cell? ⟨g, i, none⟩ = some (valAt vl i) ∧ OwnI wr (g + 1) (valAt vl i) (rowL xss i))) (fun _ i _ => xss.length - (intOf i).toNat)
  case atStart => exact ⟨0, Nat.zero_le _, rfl, by simp [totS], TouchS.refl _ _ _, ho.hi, fun i _ hi => ⟨ho.cell i hi, ho.row i hi⟩⟩
  case round =>
    obtain ⟨j, hj, rfl, rfl, ht, hg, hall⟩ := hrel
    have HA := Lib.hid hall
    clear hall
    by_cases hlt : j < xss.length
    · have ⟨hcj, hoj⟩ := HA.out j (Nat.le_refl _) hlt
      have hrt := row_tot (xss := xss) hlt
      have hmn := totS_mono (xss := xss) (j := j) (k := xss.length) (by omega)
      have HN : Hid (totS xss (j+1) = totS xss j + (rowL xss j).length) := rfl
      have k1 : (j : Int) < (xss.length : Int) := by omega
      have hcb := HC.out j hlt
      have HCB := Lib.hid hcb
      have HNX := Lib.hid (fun i (h : j < i) (h2 : i < xss.length) => HAP.out j i h h2)
      obtain ⟨vj, hvj⟩ : ∃ vj, vj = valAt vl j := ⟨_, rfl⟩
      rw [← hvj] at hcj hoj HCB HNX
      clear hvj hcb
      obtain ⟨aj, capj, rfl⟩ := hoj.form
      have hro : (rowL xss j).length ≤ 1048576 := by omega
      go_wp2_with fail
      refine (markIntS_any _ _ _ _ _ _ (by omega) (by omega) hro hoj).mono ?_
      rintro e w2 ⟨rfl, ho2, hg2⟩
      go_wp2_with fail
      go_roundw
      case rel =>
        refine ⟨j + 1, by omega, by go_num, val_int (by rw [HN.out]; omega), ht.step hg2 HCB.out, Nat.lt_of_lt_of_le hg hg2.size, fun i h2 h3 => ?_⟩
        have ⟨hci, hoi⟩ := HA.out i (by omega) h3
        refine ⟨hg2.cell hci (ne_own (fun c e => by have := hoj.lt c e; show c ≠ g; omega)), hoi.kept hg2 (own_ne (fun c e e2 => by have := HNX.out i (by omega) h3 c c e2 e; omega))⟩
      case measure => simp [intOf]; omega
    · obtain rfl : j = xss.length := by omega
      go_wp2_with fail
      go_ret
      exact ⟨rfl, ht⟩

/-- the marking of an argument: rows that were converted -/
theorem markMx_arg (g : Nat) (vl : List Value) (xss : List (List Int)) (cap : Nat) (k : Int) (B lo hi : Nat) (w : World) (h0 : 0 ≤ k) (h1 : k ≤ 1048576) (hn : xss.length + totS xss xss.length ≤ 1048576) (ho : OwnS w B g vl xss) (hc : ∀ i, i < xss.length → ∀ c, (valAt vl i).ownBlock = some c → lo ≤ c ∧ c < hi) :
    Calls Try.prog 16 #[.agg #[.slice (some ⟨g, 0, none⟩) xss.length cap], .int .i64 k] w fun e w' => e = .returned (.int .i64 (k + ((totS xss xss.length : Nat) : Int))) ∧ TouchS lo hi w w' := by
  have hmax := ho.max
  have ha : Below w.heap.size w (w.alloc (.cells #[.slice (some ⟨g, 0, none⟩) xss.length cap] 29)) := (by repeat (first | exact Below.refl _ _ | assumption | refine Below.alloc ?_ (by first | exact Nat.le_refl _ | (simp only [World.size_alloc, World.size_setCell, World.size_drew]; omega) | omega) _ | refine Below.setCell ?_ (by first | exact Nat.le_refl _ | (simp only [World.size_alloc, World.size_setCell, World.size_drew]; omega) | omega) _ | refine Below.drew ?_))
  have HA := Lib.hid ha
  have HCL := Lib.hid (markIntSS_any g vl xss cap k B lo hi _ h0 h1 hn (ho.below ha (Nat.le_refl _)) hc)
  clear hc ha ho
  go_enter Try.func16, Try.ntmps16
  go_wp2_with fail
  refine HCL.out.mono ?_
  rintro e w1 ⟨rfl, ht⟩
  have ht2 := TouchS.of_below (B := 0) HA.out ht
  clear ht
  go_wp2_with fail
  go_ret
  exact ⟨rfl, ht2⟩

def eqO (n : Int) (xs : List Int) (m : Int) (ys : List Int) : Bool := decide (n = m) && eqL xs ys
theorem eqO_refl (n : Int) (xs : List Int) : eqO n xs n xs = true := by simp [eqO, eqL]
theorem eqOrder_any (n m : Int) (a b : Option Addr) (xs ys : List Int) (ca cb : Nat) (w : World) (hx : Rd w a xs) (hy : Rd w b ys) :
    Calls Try.prog 23 #[.agg #[.int .i64 n, .slice a xs.length ca], .agg #[.int .i64 m, .slice b ys.length cb]] w fun e w' => e = .returned (.bool (eqO n xs m ys)) ∧ Below w.heap.size w w' := by
  by_cases hn : n = m
  · have hn' : (n != m) = false := by simp [hn]
    have HN := Lib.hid hn
    clear hn
    cases he : eqL xs ys
    all_goals
      have HO : Hid (eqO n xs m ys = eqL xs ys) := by simp [Hid, eqO, HN.out]
      have HE := Lib.hid he
      clear he
      go_enter Try.func23, Try.ntmps23
      go_wp2_with fail
      refine (eqIntS_any _ _ xs ys _ _ _ (hx.below (by repeat (first | exact Below.refl _ _ | assumption | refine Below.alloc ?_ (by first | exact Nat.le_refl _ | (simp only [World.size_alloc, World.size_setCell, World.size_drew]; omega) | omega) _ | refine Below.setCell ?_ (by first | exact Nat.le_refl _ | (simp only [World.size_alloc, World.size_setCell, World.size_drew]; omega) | omega) _ | refine Below.drew ?_))) (hy.below (by repeat (first | exact Below.refl _ _ | assumption | refine Below.alloc ?_ (by first | exact Nat.le_refl _ | (simp only [World.size_alloc, World.size_setCell, World.size_drew]; omega) | omega) _ | refine Below.setCell ?_ (by first | exact Nat.le_refl _ | (simp only [World.size_alloc, World.size_setCell, World.size_drew]; omega) | omega) _ | refine Below.drew ?_)))).mono ?_
      rintro e w1 ⟨rfl, hb⟩
      rw [HE.out]
      obtain ⟨hc, hf⟩ := bcell hb
      go_wp2_with fail
      go_ret
      exact ⟨ret_bool (by rw [HO.out, HE.out]), Below.trans (by repeat (first | exact Below.refl _ _ | assumption | refine Below.alloc ?_ (by first | exact Nat.le_refl _ | (simp only [World.size_alloc, World.size_setCell, World.size_drew]; omega) | omega) _ | refine Below.setCell ?_ (by first | exact Nat.le_refl _ | (simp only [World.size_alloc, World.size_setCell, World.size_drew]; omega) | omega) _ | refine Below.drew ?_)) (hb.mono (by first | (simp only [World.size_alloc, World.size_setCell, World.size_drew]; omega) | omega))⟩
  · have hn' : (n != m) = true := by simp [hn]
    have HO : Hid (eqO n xs m ys = false) := by simp [Hid, eqO, hn]
    clear hn
    go_enter Try.func23, Try.ntmps23
    go_wp2_with fail
    go_ret
    exact ⟨ret_bool HO.out.symm, (by repeat (first | exact Below.refl _ _ | assumption | refine Below.alloc ?_ (by first | exact Nat.le_refl _ | (simp only [World.size_alloc, World.size_setCell, World.size_drew]; omega) | omega) _ | refine Below.setCell ?_ (by first | exact Nat.le_refl _ | (simp only [World.size_alloc, World.size_setCell, World.size_drew]; omega) | omega) _ | refine Below.drew ?_))⟩

theorem heldIntS_any (a : Option Addr) (n cap : Nat) (k : Int) (w : World) (h0 : 0 ≤ k) (h1 : k ≤ 1099511627776) (hn : n ≤ 1048576) (hx : Rd w a (marks k n)) :
    Calls Try.prog 18 #[.slice a n cap, .int .i64 k] w fun e w' => e = .returned (.int .i64 (k + n)) ∧ Below w.heap.size w w' := by
  go_enter Try.func18, Try.ntmps18
  go_wp2_with fail
  go_loop [1, 5] (fun k' i => ∃ j : Nat, j ≤ n ∧ i = .int .i64 j ∧ k' = .int .i64 (k + j)) (fun _ i => n - (intOf i).toNat)
  case atStart => exact ⟨0, Nat.zero_le _, rfl, by simp⟩
  case round =>
    obtain ⟨j, hj, rfl, rfl⟩ := hrel
    by_cases hlt : j < n
    · obtain ⟨b, off, rfl, hbl, hc⟩ := hx.cell j (by rw [marks_len]; exact hlt)
      rw [marks_nth hlt] at hc
      go_wp2_with fail
      go_round
      case rel => exact ⟨j + 1, by omega, by go_num, by go_num⟩
      case measure => simp [intOf]; omega
    · obtain rfl : j = n := by omega
      go_wp2_with fail
      go_ret
      exact ⟨rfl, (by repeat (first | exact Below.refl _ _ | assumption | refine Below.alloc ?_ (by first | exact Nat.le_refl _ | (simp only [World.size_alloc, World.size_setCell, World.size_drew]; omega) | omega) _ | refine Below.setCell ?_ (by first | exact Nat.le_refl _ | (simp only [World.size_alloc, World.size_setCell, World.size_drew]; omega) | omega) _ | refine Below.drew ?_))⟩

theorem heldOrder_any (m : Int) (a : Option Addr) (n cap : Nat) (k : Int) (w : World) (h0 : 0 ≤ k) (h1 : k ≤ 1099511627776) (hn : n ≤ 1048576) (hx : Rd w a (marks k n)) :
    Calls Try.prog 28 #[.agg #[.int .i64 m, .slice a n cap], .int .i64 k] w fun e w' => e = .returned (.int .i64 (k + n)) ∧ Below w.heap.size w w' := by
  have hp : 0 ≤ k + n := by omega
  go_enter Try.func28, Try.ntmps28
  go_wp2_with fail
  refine (heldIntS_any _ _ _ _ _ h0 h1 hn (hx.alloc _)).mono ?_
  rintro e w1 ⟨rfl, hb1⟩
  go_wp2_with fail
  go_ret
  exact ⟨rfl, Below.trans (by repeat (first | exact Below.refl _ _ | assumption | refine Below.alloc ?_ (by first | exact Nat.le_refl _ | (simp only [World.size_alloc, World.size_setCell, World.size_drew]; omega) | omega) _ | refine Below.setCell ?_ (by first | exact Nat.le_refl _ | (simp only [World.size_alloc, World.size_setCell, World.size_drew]; omega) | omega) _ | refine Below.drew ?_)) (hb1.mono (by first | (simp only [World.size_alloc, World.size_setCell, World.size_drew]; omega) | omega))⟩

theorem walk (a0 : Option Addr) (xss0 : List (List Int)) (cap0 : Nat) (w : World) (hx0 : RdS w a0 xss0) :
    Calls Try.prog 5 #[.agg #[.slice a0 xss0.length cap0]] w fun e w' => e = .returned (.bool true) ∧ Below w.heap.size w w' := by
  have hR0 : (omL xss0).length ≤ 1048576 := omL_len xss0
  by_cases hs0 : 1048576 < ((xss0.length + totS xss0 xss0.length : Nat) : Int)
  · go_enter Try.func5, Try.ntmps5
    go_wp2_with fail
    refine (szMx_no (by omega) (hx0.below ((Below.refl _ _).alloc (by first | exact Nat.le_refl _ | simp) _))).mono ?_
    rintro e w1 ⟨rfl, hb1⟩
    have bw1 : Below w.heap.size w w1 := Below.trans (by repeat (first | exact Below.refl _ _ | assumption | refine Below.alloc ?_ (by first | exact Nat.le_refl _ | (simp only [World.size_alloc, World.size_setCell, World.size_drew]; omega) | omega) _ | refine Below.setCell ?_ (by first | exact Nat.le_refl _ | (simp only [World.size_alloc, World.size_setCell, World.size_drew]; omega) | omega) _ | refine Below.drew ?_)) (hb1.mono (by first | (simp only [World.size_alloc, World.size_setCell, World.size_drew]; omega) | omega))
    have A0_1 : Box1 w1 w.heap.size (.slice a0 xss0.length cap0) := ⟨by have := hb1.size; simp at this; omega, (hb1.cell (p := ⟨w.heap.size, 0, none⟩) (by simp <;> omega)).trans (by simp)⟩
    have ⟨zA0_1, cA0_1⟩ := A0_1
    go_wp2_with fail
    go_ret
    exact ⟨rfl, bw1⟩
  go_enter Try.func5, Try.ntmps5
  go_wp2_with fail
  refine (szMx_ok (by omega) (hx0.below ((Below.refl _ _).alloc (by first | exact Nat.le_refl _ | simp) _))).mono ?_
  rintro e w1 ⟨rfl, hb⟩
  have bw1 : Below w.heap.size w w1 := Below.trans (by repeat (first | exact Below.refl _ _ | assumption | refine Below.alloc ?_ (by first | exact Nat.le_refl _ | (simp only [World.size_alloc, World.size_setCell, World.size_drew]; omega) | omega) _ | refine Below.setCell ?_ (by first | exact Nat.le_refl _ | (simp only [World.size_alloc, World.size_setCell, World.size_drew]; omega) | omega) _ | refine Below.drew ?_)) (hb.mono (by first | (simp only [World.size_alloc, World.size_setCell, World.size_drew]; omega) | omega))
  have z1 : w.heap.size ≤ w1.heap.size := bw1.size
  have A0_1 : Box1 w1 w.heap.size (.slice a0 xss0.length cap0) := ⟨by have := hb.size; simp at this; omega, (hb.cell (p := ⟨w.heap.size, 0, none⟩) (by simp <;> omega)).trans (by simp)⟩
  have ⟨zA0_1, cA0_1⟩ := A0_1
  clear hb
  go_wp2_with fail
  refine (toMx_any _ _ _ _ (hx0.below bw1) (by omega)).mono ?_
  rintro e w2 ⟨pT0, qT0, lT0, rfl, ho, hb⟩
  have ht : Below w1.heap.size w1 w2 := hb
  have z2 : w1.heap.size ≤ w2.heap.size := ht.size
  have bw2 : Below w.heap.size w w2 := bw1.trans (ht.mono bw1.size)
  have A0_2 := A0_1.below ht
  have ⟨zA0_2, cA0_2⟩ := A0_2
  clear A0_1 cA0_1
  have T0_2 := ho
  have UT0 := T0_2.cut (Nat.le_refl _)
  clear ho
  clear ht hb
  go_wp2_with fail
  refine (sMxO_any _ _ _ _ (T0_2.rdC) (by omega)).mono ?_
  rintro e w3 ⟨pR0, qR0, rfl, ho0, hb⟩
  have ht : Below w2.heap.size w2 w3 := hb
  have z3 : w2.heap.size ≤ w3.heap.size := ht.size
  have bw3 : Below w.heap.size w w3 := bw2.trans (ht.mono bw2.size)
  have A0_3 := A0_2.below ht
  have ⟨zA0_3, cA0_3⟩ := A0_3
  have T0_3 := T0_2.below ht (Nat.le_refl _)
  clear A0_2 cA0_2 T0_2
  have R0_3 := ho0
  have UR0 := R0_3.cut (Nat.le_refl _)
  clear ho0
  clear ht hb
  go_wp2_with fail
  clear T0_3 UT0
  refine (toMx_any _ _ _ _ (hx0.below (bw3.alloc bw3.size _)) (by omega)).mono ?_
  rintro e w4 ⟨pX0, qX0, lX0, rfl, ho, hb⟩
  have ht : Below w3.heap.size w3 w4 := Below.trans (by repeat (first | exact Below.refl _ _ | assumption | refine Below.alloc ?_ (by first | exact Nat.le_refl _ | (simp only [World.size_alloc, World.size_setCell, World.size_drew]; omega) | omega) _ | refine Below.setCell ?_ (by first | exact Nat.le_refl _ | (simp only [World.size_alloc, World.size_setCell, World.size_drew]; omega) | omega) _ | refine Below.drew ?_)) (hb.mono (by first | (simp only [World.size_alloc, World.size_setCell, World.size_drew]; omega) | omega))
  have z4 : w3.heap.size ≤ w4.heap.size := ht.size
  have bw4 : Below w.heap.size w w4 := bw3.trans (ht.mono bw3.size)
  have A0_4 := A0_3.below ht
  have BR0_4 : Box2 w4 w3.heap.size (.int .i64 (omN xss0)) (.slice pR0 (omL xss0).length qR0) := (Box2.new w3 _ _ 41).below hb
  have ⟨zA0_4, cA0_4⟩ := A0_4
  have ⟨zBR0_4, cBR0_4, dBR0_4⟩ := BR0_4
  have R0_4 := R0_3.below ht (Nat.le_refl _)
  clear A0_3 cA0_3 R0_3
  have X0_4 := ho
  have UX0 := X0_4.cut (Nat.le_refl _); simp only [World.size_alloc] at UX0
  clear ho
  clear ht hb
  go_wp2_with fail
  refine (iMxO_any _ _ _ _ (X0_4.rdC.below (by repeat (first | exact Below.refl _ _ | assumption | refine Below.alloc ?_ (by first | exact Nat.le_refl _ | (simp only [World.size_alloc, World.size_setCell, World.size_drew]; omega) | omega) _ | refine Below.setCell ?_ (by first | exact Nat.le_refl _ | (simp only [World.size_alloc, World.size_setCell, World.size_drew]; omega) | omega) _ | refine Below.drew ?_))) (by omega)).mono ?_
  rintro e w5 ⟨pG0, qG0, rfl, ho0, hb⟩
  have ht : Below w4.heap.size w4 w5 := Below.trans (by repeat (first | exact Below.refl _ _ | assumption | refine Below.alloc ?_ (by first | exact Nat.le_refl _ | (simp only [World.size_alloc, World.size_setCell, World.size_drew]; omega) | omega) _ | refine Below.setCell ?_ (by first | exact Nat.le_refl _ | (simp only [World.size_alloc, World.size_setCell, World.size_drew]; omega) | omega) _ | refine Below.drew ?_)) (hb.mono (by first | (simp only [World.size_alloc, World.size_setCell, World.size_drew]; omega) | omega))
  have z5 : w4.heap.size ≤ w5.heap.size := ht.size
  have bw5 : Below w.heap.size w w5 := bw4.trans (ht.mono bw4.size)
  have A0_5 := A0_4.below ht
  have BR0_5 := BR0_4.below ht
  have BX0_5 : Box1 w5 w4.heap.size (.slice (some ⟨pX0, 0, none⟩) xss0.length qX0) := (Box1.new w4 _ 29).below hb
  have ⟨zA0_5, cA0_5⟩ := A0_5
  have ⟨zBR0_5, cBR0_5, dBR0_5⟩ := BR0_5
  have ⟨zBX0_5, cBX0_5⟩ := BX0_5
  have R0_5 := R0_4.below ht (Nat.le_refl _)
  have X0_5 := X0_4.below ht (Nat.le_refl _)
  clear A0_4 cA0_4 BR0_4 cBR0_4 dBR0_4 R0_4 X0_4
  have G0_5 := ho0
  have UG0 := G0_5.cut (Nat.le_refl _); simp only [World.size_alloc] at UG0
  clear ho0
  clear ht hb
  go_wp2_with fail
  refine (eqOrder_any _ _ _ _ (omL xss0) (omL xss0) _ _ _ (G0_5.rd.below (by repeat (first | exact Below.refl _ _ | assumption | refine Below.alloc ?_ (by first | exact Nat.le_refl _ | (simp only [World.size_alloc, World.size_setCell, World.size_drew]; omega) | omega) _ | refine Below.setCell ?_ (by first | exact Nat.le_refl _ | (simp only [World.size_alloc, World.size_setCell, World.size_drew]; omega) | omega) _ | refine Below.drew ?_))) (R0_5.rd.below (by repeat (first | exact Below.refl _ _ | assumption | refine Below.alloc ?_ (by first | exact Nat.le_refl _ | (simp only [World.size_alloc, World.size_setCell, World.size_drew]; omega) | omega) _ | refine Below.setCell ?_ (by first | exact Nat.le_refl _ | (simp only [World.size_alloc, World.size_setCell, World.size_drew]; omega) | omega) _ | refine Below.drew ?_)))).mono ?_
  rw [eqO_refl]
  rintro e w6 ⟨rfl, hb⟩
  have ht : Below w5.heap.size w5 w6 := Below.trans (by repeat (first | exact Below.refl _ _ | assumption | refine Below.alloc ?_ (by first | exact Nat.le_refl _ | (simp only [World.size_alloc, World.size_setCell, World.size_drew]; omega) | omega) _ | refine Below.setCell ?_ (by first | exact Nat.le_refl _ | (simp only [World.size_alloc, World.size_setCell, World.size_drew]; omega) | omega) _ | refine Below.drew ?_)) (hb.mono (by first | (simp only [World.size_alloc, World.size_setCell, World.size_drew]; omega) | omega))
  have z6 : w5.heap.size ≤ w6.heap.size := ht.size
  have bw6 : Below w.heap.size w w6 := bw5.trans (ht.mono bw5.size)
  have A0_6 := A0_5.below ht
  have BR0_6 := BR0_5.below ht
  have BX0_6 := BX0_5.below ht
  have BG0_6 : Box2 w6 w5.heap.size (.int .i64 (omN xss0)) (.slice pG0 (omL xss0).length qG0) := (Box2.new w5 _ _ 41).below hb
  have ⟨zA0_6, cA0_6⟩ := A0_6
  have ⟨zBR0_6, cBR0_6, dBR0_6⟩ := BR0_6
  have ⟨zBX0_6, cBX0_6⟩ := BX0_6
  have ⟨zBG0_6, cBG0_6, dBG0_6⟩ := BG0_6
  have R0_6 := R0_5.below ht (Nat.le_refl _)
  have X0_6 := X0_5.below ht (Nat.le_refl _)
  have G0_6 := G0_5.below ht (Nat.le_refl _)
  clear A0_5 cA0_5 BR0_5 cBR0_5 dBR0_5 BX0_5 cBX0_5 R0_5 X0_5 G0_5
  clear ht hb
  go_wp2_with fail
  go_region_held3 (fun w' => w'.cell? ⟨w.heap.size, 0, none⟩ = some (.slice a0 xss0.length cap0) ∧ w'.cell? ⟨w4.heap.size, 0, none⟩ = some (.slice (some ⟨pX0, 0, none⟩) xss0.length qX0))
    (first | exact ⟨P8.2, Q8.2⟩ | exact ⟨P7.2, Q7.2⟩ | go_keep)
    (first | (go_at_call 12; refine (toMx_any _ _ _ _ (hx0.below (bw6.trans (Joins.below_draws _ _ _))) (by omega)).mono ?_; rintro e w7 ⟨a7', cap7', l7', rfl, ho7, hb7⟩; have ht7 : Below w6.heap.size w6 w7 := (Joins.below_draws _ _ _).trans hb7; have P7 := A0_6.below ht7; have Q7 := BX0_6.below ht7) | (go_at_call 15; refine (eqMx_any _ _ xss0 _ _ _ (X0_6.rd.below ht7) ho7.rd).mono ?_; rintro e w8 ⟨rfl, hb8⟩; have P8 := P7.below hb8; have Q8 := Q7.below hb8))
  have ht : Below w6.heap.size w6 w8 := ht7.trans (hb8.mono ht7.size)
  have z8 : w6.heap.size ≤ w8.heap.size := ht.size
  have bw8 : Below w.heap.size w w8 := bw6.trans (ht.mono bw6.size)
  clear P7 Q7 P8 Q8 ho7
  have A0_8 := A0_6.below ht
  have BR0_8 := BR0_6.below ht
  have BX0_8 := BX0_6.below ht
  have BG0_8 := BG0_6.below ht
  have ⟨zA0_8, cA0_8⟩ := A0_8
  have ⟨zBR0_8, cBR0_8, dBR0_8⟩ := BR0_8
  have ⟨zBX0_8, cBX0_8⟩ := BX0_8
  have ⟨zBG0_8, cBG0_8, dBG0_8⟩ := BG0_8
  have R0_8 := R0_6.below ht (Nat.le_refl _)
  have X0_8 := X0_6.below ht (Nat.le_refl _)
  have G0_8 := G0_6.below ht (Nat.le_refl _)
  clear A0_6 cA0_6 BR0_6 cBR0_6 dBR0_6 BX0_6 cBX0_6 BG0_6 cBG0_6 dBG0_6 R0_6 X0_6 G0_6
  clear ht hb8 ht7 hb7
  go_wp2_with fail
  refine (markMx_arg _ _ _ _ _ _ (w3.heap.size + 1) w4.heap.size _ (by omega) (by omega) (by omega) X0_8 (fun i hi c e => by have h1 := UX0.2 i hi c e; have h2 := UX0.1; omega)).mono ?_
  rintro e w9 ⟨rfl, hg⟩
  have z9 : w8.heap.size ≤ w9.heap.size := hg.size
  have bw9 : Below w.heap.size w w9 := bw8.trans (hg.below (by omega) (by omega))
  have A0_9 := A0_8.touch hg (by omega)
  have ⟨zA0_9, cA0_9⟩ := A0_9
  have BR0_9 := BR0_8.touch hg (by omega)
  have ⟨zBR0_9, cBR0_9, dBR0_9⟩ := BR0_9
  have BX0_9 := BX0_8.touch hg (by omega)
  have ⟨zBX0_9, cBX0_9⟩ := BX0_9
  have BG0_9 := BG0_8.touch hg (by omega)
  have ⟨zBG0_9, cBG0_9, dBG0_9⟩ := BG0_9
  have R0_9 := R0_8.touch hg (fun c e => by have := UR0 c e; omega)
  have G0_9 := G0_8.touch hg (fun c e => by have := UG0 c e; omega)
  clear A0_8 cA0_8 BR0_8 cBR0_8 dBR0_8 BX0_8 cBX0_8 BG0_8 cBG0_8 dBG0_8 R0_8 X0_8 G0_8 hg UX0
  go_wp2_with fail
  refine (eqOrder_any _ _ _ _ (omL xss0) (omL xss0) _ _ _ (G0_9.rd) (R0_9.rd)).mono ?_
  rw [eqO_refl]
  rintro e w10 ⟨rfl, hb⟩
  have ht : Below w9.heap.size w9 w10 := hb
  have z10 : w9.heap.size ≤ w10.heap.size := ht.size
  have bw10 : Below w.heap.size w w10 := bw9.trans (ht.mono bw9.size)
  have A0_10 := A0_9.below ht
  have BR0_10 := BR0_9.below ht
  have BX0_10 := BX0_9.below ht
  have BG0_10 := BG0_9.below ht
  have ⟨zA0_10, cA0_10⟩ := A0_10
  have ⟨zBR0_10, cBR0_10, dBR0_10⟩ := BR0_10
  have ⟨zBX0_10, cBX0_10⟩ := BX0_10
  have ⟨zBG0_10, cBG0_10, dBG0_10⟩ := BG0_10
  have R0_10 := R0_9.below ht (Nat.le_refl _)
  have G0_10 := G0_9.below ht (Nat.le_refl _)
  clear A0_9 cA0_9 BR0_9 cBR0_9 dBR0_9 BX0_9 cBX0_9 BG0_9 cBG0_9 dBG0_9 R0_9 G0_9
  clear ht hb
  go_wp2_with fail
  refine (markOrder_any _ _ _ _ _ _ _ (by omega) (by omega) hR0 G0_10).mono ?_
  rintro e w11 ⟨rfl, ho, hg⟩
  have z11 : w10.heap.size ≤ w11.heap.size := hg.size
  have bw11 : Below w.heap.size w w11 := bw10.trans (below_of_grown hg (fun b e => by have := UG0 b e; omega) (by omega))
  have A0_11 := A0_10.kept hg (ne_own (fun c e => by have := UG0 c e; omega))
  have ⟨zA0_11, cA0_11⟩ := A0_11
  have BR0_11 := BR0_10.kept hg (ne_own (fun c e => by have := UG0 c e; omega))
  have ⟨zBR0_11, cBR0_11, dBR0_11⟩ := BR0_11
  have BX0_11 := BX0_10.kept hg (ne_own (fun c e => by have := UG0 c e; omega))
  have ⟨zBX0_11, cBX0_11⟩ := BX0_11
  have BG0_11 := BG0_10.kept hg (ne_own (fun c e => by have := UG0 c e; omega))
  have ⟨zBG0_11, cBG0_11, dBG0_11⟩ := BG0_11
  have R0_11 := R0_10.kept hg (own_ne (fun c e e2 => by have h1 := UR0 c e; have h2 := UG0 c e2; omega))
  clear A0_10 cA0_10 BR0_10 cBR0_10 dBR0_10 BX0_10 cBX0_10 BG0_10 cBG0_10 dBG0_10 R0_10 G0_10 hg
  have G0_11 := ho
  clear ho
  go_wp2_with fail
  refine (heldOrder_any _ _ _ _ _ _ (by omega) (by omega) hR0 G0_11.rd).mono ?_
  rintro e w12 ⟨rfl, hb⟩
  have ht : Below w11.heap.size w11 w12 := hb
  have z12 : w11.heap.size ≤ w12.heap.size := ht.size
  have bw12 : Below w.heap.size w w12 := bw11.trans (ht.mono bw11.size)
  have A0_12 := A0_11.below ht
  have BR0_12 := BR0_11.below ht
  have BX0_12 := BX0_11.below ht
  have BG0_12 := BG0_11.below ht
  have ⟨zA0_12, cA0_12⟩ := A0_12
  have ⟨zBR0_12, cBR0_12, dBR0_12⟩ := BR0_12
  have ⟨zBX0_12, cBX0_12⟩ := BX0_12
  have ⟨zBG0_12, cBG0_12, dBG0_12⟩ := BG0_12
  have R0_12 := R0_11.below ht (Nat.le_refl _)
  have G0_12 := G0_11.below ht (Nat.le_refl _)
  clear A0_11 cA0_11 BR0_11 cBR0_11 dBR0_11 BX0_11 cBX0_11 BG0_11 cBG0_11 dBG0_11 R0_11 G0_11
  clear ht hb
  go_wp2_with fail
  refine (toMx_any _ _ _ _ (hx0.below bw12) (by omega)).mono ?_
  rintro e w13 ⟨pV0, qV0, lV0, rfl, ho, hb⟩
  have ht : Below w12.heap.size w12 w13 := hb
  have z13 : w12.heap.size ≤ w13.heap.size := ht.size
  have bw13 : Below w.heap.size w w13 := bw12.trans (ht.mono bw12.size)
  have A0_13 := A0_12.below ht
  have BR0_13 := BR0_12.below ht
  have BX0_13 := BX0_12.below ht
  have BG0_13 := BG0_12.below ht
  have ⟨zA0_13, cA0_13⟩ := A0_13
  have ⟨zBR0_13, cBR0_13, dBR0_13⟩ := BR0_13
  have ⟨zBX0_13, cBX0_13⟩ := BX0_13
  have ⟨zBG0_13, cBG0_13, dBG0_13⟩ := BG0_13
  have R0_13 := R0_12.below ht (Nat.le_refl _)
  have G0_13 := G0_12.below ht (Nat.le_refl _)
  clear A0_12 cA0_12 BR0_12 cBR0_12 dBR0_12 BX0_12 cBX0_12 BG0_12 cBG0_12 dBG0_12 R0_12 G0_12
  have V0_13 := ho
  have UV0 := V0_13.cut (Nat.le_refl _)
  clear ho
  clear ht hb
  go_wp2_with fail
  refine (iMxO_any _ _ _ _ (V0_13.rdC) (by omega)).mono ?_
  rintro e w14 ⟨pH0, qH0, rfl, ho0, hb⟩
  have ht : Below w13.heap.size w13 w14 := hb
  have z14 : w13.heap.size ≤ w14.heap.size := ht.size
  have bw14 : Below w.heap.size w w14 := bw13.trans (ht.mono bw13.size)
  have A0_14 := A0_13.below ht
  have BR0_14 := BR0_13.below ht
  have BX0_14 := BX0_13.below ht
  have BG0_14 := BG0_13.below ht
  have ⟨zA0_14, cA0_14⟩ := A0_14
  have ⟨zBR0_14, cBR0_14, dBR0_14⟩ := BR0_14
  have ⟨zBX0_14, cBX0_14⟩ := BX0_14
  have ⟨zBG0_14, cBG0_14, dBG0_14⟩ := BG0_14
  have R0_14 := R0_13.below ht (Nat.le_refl _)
  have G0_14 := G0_13.below ht (Nat.le_refl _)
  have V0_14 := V0_13.below ht (Nat.le_refl _)
  clear A0_13 cA0_13 BR0_13 cBR0_13 dBR0_13 BX0_13 cBX0_13 BG0_13 cBG0_13 dBG0_13 R0_13 G0_13 V0_13
  have H0_14 := ho0
  have UH0 := H0_14.cut (Nat.le_refl _)
  clear ho0
  clear ht hb
  go_wp2_with fail
  clear V0_14 UV0
  refine (eqOrder_any _ _ _ _ (omL xss0) (omL xss0) _ _ _ (H0_14.rd.below (by repeat (first | exact Below.refl _ _ | assumption | refine Below.alloc ?_ (by first | exact Nat.le_refl _ | (simp only [World.size_alloc, World.size_setCell, World.size_drew]; omega) | omega) _ | refine Below.setCell ?_ (by first | exact Nat.le_refl _ | (simp only [World.size_alloc, World.size_setCell, World.size_drew]; omega) | omega) _ | refine Below.drew ?_))) (R0_14.rd.below (by repeat (first | exact Below.refl _ _ | assumption | refine Below.alloc ?_ (by first | exact Nat.le_refl _ | (simp only [World.size_alloc, World.size_setCell, World.size_drew]; omega) | omega) _ | refine Below.setCell ?_ (by first | exact Nat.le_refl _ | (simp only [World.size_alloc, World.size_setCell, World.size_drew]; omega) | omega) _ | refine Below.drew ?_)))).mono ?_
  rw [eqO_refl]
  rintro e w15 ⟨rfl, hb⟩
  have ht : Below w14.heap.size w14 w15 := Below.trans (by repeat (first | exact Below.refl _ _ | assumption | refine Below.alloc ?_ (by first | exact Nat.le_refl _ | (simp only [World.size_alloc, World.size_setCell, World.size_drew]; omega) | omega) _ | refine Below.setCell ?_ (by first | exact Nat.le_refl _ | (simp only [World.size_alloc, World.size_setCell, World.size_drew]; omega) | omega) _ | refine Below.drew ?_)) (hb.mono (by first | (simp only [World.size_alloc, World.size_setCell, World.size_drew]; omega) | omega))
  have z15 : w14.heap.size ≤ w15.heap.size := ht.size
  have bw15 : Below w.heap.size w w15 := bw14.trans (ht.mono bw14.size)
  have A0_15 := A0_14.below ht
  have BR0_15 := BR0_14.below ht
  have BX0_15 := BX0_14.below ht
  have BG0_15 := BG0_14.below ht
  have BH0_15 : Box2 w15 w14.heap.size (.int .i64 (omN xss0)) (.slice pH0 (omL xss0).length qH0) := (Box2.new w14 _ _ 41).below hb
  have ⟨zA0_15, cA0_15⟩ := A0_15
  have ⟨zBR0_15, cBR0_15, dBR0_15⟩ := BR0_15
  have ⟨zBX0_15, cBX0_15⟩ := BX0_15
  have ⟨zBG0_15, cBG0_15, dBG0_15⟩ := BG0_15
  have ⟨zBH0_15, cBH0_15, dBH0_15⟩ := BH0_15
  have R0_15 := R0_14.below ht (Nat.le_refl _)
  have G0_15 := G0_14.below ht (Nat.le_refl _)
  have H0_15 := H0_14.below ht (Nat.le_refl _)
  clear A0_14 cA0_14 BR0_14 cBR0_14 dBR0_14 BX0_14 cBX0_14 BG0_14 cBG0_14 dBG0_14 R0_14 G0_14 H0_14
  clear ht hb
  go_wp2_with fail
  refine (heldOrder_any _ _ _ _ _ _ (by omega) (by omega) hR0 G0_15.rd).mono ?_
  rintro e w16 ⟨rfl, hb⟩
  have ht : Below w15.heap.size w15 w16 := hb
  have z16 : w15.heap.size ≤ w16.heap.size := ht.size
  have bw16 : Below w.heap.size w w16 := bw15.trans (ht.mono bw15.size)
  have A0_16 := A0_15.below ht
  have BR0_16 := BR0_15.below ht
  have BX0_16 := BX0_15.below ht
  have BG0_16 := BG0_15.below ht
  have BH0_16 := BH0_15.below ht
  have ⟨zA0_16, cA0_16⟩ := A0_16
  have ⟨zBR0_16, cBR0_16, dBR0_16⟩ := BR0_16
  have ⟨zBX0_16, cBX0_16⟩ := BX0_16
  have ⟨zBG0_16, cBG0_16, dBG0_16⟩ := BG0_16
  have ⟨zBH0_16, cBH0_16, dBH0_16⟩ := BH0_16
  have R0_16 := R0_15.below ht (Nat.le_refl _)
  have G0_16 := G0_15.below ht (Nat.le_refl _)
  have H0_16 := H0_15.below ht (Nat.le_refl _)
  clear A0_15 cA0_15 BR0_15 cBR0_15 dBR0_15 BX0_15 cBX0_15 BG0_15 cBG0_15 dBG0_15 BH0_15 cBH0_15 dBH0_15 R0_15 G0_15 H0_15
  clear ht hb
  go_wp2_with fail
  go_ret
  exact ⟨rfl, bw16⟩

theorem rd_of_trod {H : Type} {enc : TypeId × Value → H} {W : World} {fuel : Nat} {c : Value} {y : DataW H × List MemPlace}
    (h : DataW.trod enc Try.prog W 0 (fun _ => true) true fuel 26 [c] = some y) : ∃ (a : Option Addr) (xs : List Int) (cap : Nat), c = .slice a xs.length cap ∧ Rd W a xs ∧ ∀ k, k < xs.length → (Lit.int .i64 (nth xs k)).wf = true := by
  rcases Go.ChangeShapes.open_ints Try.underlying26 Try.underlying3 (by kernel_rfl) h with ⟨hcs, _⟩ | ⟨x, len, cap, zs, hcs, _, hl, hm, hz, _, hcell, hwf⟩
  · simp only [List.cons.injEq, and_true] at hcs
    exact ⟨none, [], 0, hcs, ⟨by simp, fun k hk => by simp at hk⟩, fun k hk => by simp at hk⟩
  · simp only [List.cons.injEq, and_true] at hcs
    simp only [if_true] at hz
    have hlen : (zs.take len).length = len := by rw [List.length_take]; omega
    have hn : ∀ k, k < len → nth (zs.take len) k = zs.getD k 0 := by
      intro k hk
      simp only [nth, List.getD_eq_getElem?_getD, List.getElem?_take, hk, if_true]
    refine ⟨some x, zs.take len, cap, by rw [hlen]; exact hcs, ⟨by rw [hlen]; unfold maxLen at hm; omega, fun k hk => ?_⟩, fun k hk => ?_⟩
    · rw [hlen] at hk
      obtain ⟨b, off, sp⟩ := x
      have h0 := hcell 0 (by omega)
      have hsp : sp = none := by simpa [Addr.add] using World.cell?_spot h0
      subst hsp
      have hk' := hcell k (by omega)
      rw [Addr.add_lit] at hk'
      exact ⟨b, off, rfl, World.block_lt_of_cell? _ _ h0, by rw [hk', hn k hk]⟩
    · rw [hlen] at hk
      rw [hn k hk]
      have hk2 : k < zs.length := by omega
      exact hwf _ (by rw [List.getD_eq_getElem?_getD, List.getElem?_eq_getElem hk2]; exact List.getElem_mem hk2)

theorem own : ownKnob Try.prog.godebug = none := by kernel_rfl
theorem laidOut : laidOutB Try.prog = true := by kernel_rfl
theorem wf_bd {n : Int} (h : (Lit.int .i64 n).wf = true) : -9223372036854775808 ≤ n ∧ n ≤ 9223372036854775807 := by
  simp [Lit.wf, IntKind.min, IntKind.max, IntKind.bits, IntKind.signed] at h
  omega

theorem rdS_of_trod {H : Type} {enc : TypeId × Value → H} {W : World} {fuel : Nat} {c : Value} {y : DataW H × List MemPlace}
    (h : DataW.trod enc Try.prog W 0 (fun _ => true) true fuel 22 [c] = some y) : ∃ (a : Option Addr) (xss : List (List Int)) (cap : Nat), c = .slice a xss.length cap ∧ RdS W a xss := by
  rcases Go.Deep.open_int_rows Try.underlying22 Try.underlying26 Try.underlying3 (by kernel_rfl) (by kernel_rfl) h with ⟨hcs, _⟩ | ⟨x, len, cap, A, L, C, Z, hcs, _, hl, hm, _, hr⟩
  · simp only [List.cons.injEq, and_true] at hcs
    exact ⟨none, [], 0, hcs, ⟨by simp, fun k hk => by simp at hk⟩⟩
  · simp only [List.cons.injEq, and_true] at hcs
    have hlen : ((List.range len).map fun r => (Z r).take (L r)).length = len := by simp
    refine ⟨some x, (List.range len).map fun r => (Z r).take (L r), cap, by rw [hlen]; exact hcs, ⟨by rw [hlen]; unfold maxLen at hm; omega, fun k hk => ?_⟩⟩
    rw [hlen] at hk
    rw [show rowL ((List.range len).map fun r => (Z r).take (L r)) k = (Z k).take (L k) by simp [rowL, hk]]
    obtain ⟨b, off, sp⟩ := x
    obtain ⟨h0, hLC, hCm, hZ, hwf, hnone, hcell⟩ := hr k (by omega)
    have hsp : sp = none := by simpa [Addr.add] using World.cell?_spot (hr 0 (by omega)).1
    subst hsp
    rw [Addr.add_lit] at h0
    have hlz : ((Z k).take (L k)).length = L k := by rw [List.length_take]; omega
    refine ⟨b, off, A k, C k, rfl, World.block_lt_of_cell? _ _ h0, by rw [hlz]; exact h0, ⟨by rw [hlz]; unfold maxLen at hCm; omega, fun c hc => ?_⟩⟩
    rw [hlz] at hc
    cases hA : A k with
    | none => have := hnone hA; omega
    | some a' =>
      have h1 := (hcell a' hA).2 c (by omega)
      obtain ⟨b', off', sp'⟩ := a'
      have hsp' : sp' = none := by simpa [Addr.add] using World.cell?_spot ((hcell _ hA).2 0 (by omega))
      subst hsp'
      rw [Addr.add_lit] at h1
      refine ⟨b', off', rfl, World.block_lt_of_cell? _ _ h1, ?_⟩
      rw [h1]
      simp [nth, List.getD_eq_getElem?_getD, List.getElem?_take, hc]

theorem cellsM : Try.prog.cellsOf 24 = 1 := by kernel_rfl
open Go.ChangeShapes Go.WideShapes Go.ChangeAt Go.RowKit in
theorem open_agg1 {H : Type} {enc : TypeId × Value → H} {P : Program} {w : World} {base : Nat} {spare : Nat → Bool} {held : Bool} {r : Reach} {b0 : Nat} {t : TypeId} {f0 : Field} {v : Value} {d : DataW H} {p : List MemPlace} (hs : P.underlying t = some (.struct #[f0])) (hone : f0.offset = 0 ∧ P.cellsOf f0.type = 1) (hC : P.cellsOf t = 1)
    (hv : Value.okWide P w r b0 t v) (h : DataW.Trod enc P w base spare held t v d p) :
    ∃ (v0 : Value) (y0 : DataW H × List MemPlace) (n : Nat), v = .agg #[v0] ∧ d = .agg [y0.1] ∧ p = y0.2 ∧ DataW.trod enc P w base spare held n f0.type [v0] = some y0 := by
  obtain ⟨cs, rfl, hsz⟩ := okWide_struct hs hv
  rw [hC] at hsz
  obtain ⟨l⟩ := cs
  obtain ⟨c0, rfl⟩ : ∃ c0, l = [c0] := by
    match l, hsz with
    | [c], _ => exact ⟨c, rfl⟩
  obtain ⟨fuel, hf⟩ := h
  obtain ⟨y0, n, hx, _, h0⟩ := trod_struct1 hs hf
  simp only [Prod.mk.injEq] at hx
  refine ⟨c0, y0, n, rfl, hx.1, hx.2, by simpa [Value.cells, hone.1, hone.2] using h0⟩

open Go.ChangeShapes Go.WideShapes Go.ChangeAt Go.RowKit in
set_option maxRecDepth 100000 in
theorem lifted (os : Os) (started : os.Started) (H : Type) (enc : TypeId × Value → H) :
    ReturnsInHanded {} Try.checked os 5 .any (Rows.fnExactOrderOfMatrixSpec.pre6 enc Try.prog Try.f5 Rows.fnExactOrderOfMatrixRow.domain false) (Rows.fnExactOrderOfMatrixSpec.post enc Try.prog Try.f5 false true false false) := by
  refine returnsInHanded_of_change (C := Try.checked) own started (by kernel_rfl) Try.func5
    (ChangeSpec.witness6 (enc := enc) (C := Try.checked) false ⟨#[], #[.agg #[.slice none 0 0]], []⟩ 8 (by kernel_rfl) (by kernel_rfl) (by kernel_rfl) (by kernel_rfl)) ?_
  intro W base args ds gs before hval0 hW hcnd _
  have hval : ∀ (j : Nat) t v, Try.f5.params[j]? = some t → args[j]? = some v → Value.okWide Try.prog W .any base t v := hval0
  have hW' := hW
  obtain ⟨p, q, hA0, hV, rfl, hfz, hnd⟩ := hW
  have hA : DataW.TrodAll enc Try.prog W 0 (fun _ => true) true Try.f5.params.toList args.toList ds p := hA0
  rw [Try.params5] at hA hval
  obtain ⟨v0, vs0, d0, ds0, p0, q0, hargs, rfl, rfl, h0, r0⟩ := trodAll_cons hA
  obtain ⟨rfl, rfl, rfl⟩ := trodAll_nil r0
  obtain rfl : args = #[v0] := by cases args; simp_all
  obtain ⟨rfl, rfl⟩ := trodVars_none hV
  have lt0 : ∀ x ∈ p0, x.block < W.heap.size := by obtain ⟨m, hm⟩ := h0; exact DataW.trod_lt m _ _ _ hm
  obtain ⟨c00, y00, m0, rfl, hd0, hp0, hy00⟩ := open_agg1 Try.underlying24 ⟨by kernel_rfl, by kernel_rfl⟩ cellsM (hval 0 24 v0 rfl rfl) h0
  obtain ⟨a0, xss0, cap0, rfl, rd0⟩ := rdS_of_trod hy00
  clear hA0 hval0
  refine (walk a0 xss0 cap0 W rd0).mono fun e W' ⟨he, bel⟩ => ?_
  subst he
  exact ⟨_, rfl, _, _, _, [], _, [], hW', trodAll_mk1 (shut_bool Try.underlying4 _), (trodAll_cons_mk (Below.trod laidOut (by kernel_rfl) (of_decide_eq_true (by kernel_rfl)) h0 bel lt0) trodAll_mk0), rfl, bel.frame _, fun h => by cases h⟩
theorem proved : Rows.FnExactOrderOfMatrixSaid :=
  OpenClaim.holds_of_wide 5 Try.f5 rfl rfl rfl rfl rfl rfl rfl ⟨rfl, rfl, rfl, rfl, rfl⟩ rfl rfl rfl rfl rfl (by kernel_rfl) Try.func5 (by kernel_rfl)
    (of_decide_eq_true (by kernel_rfl)) (by unfold Func.isWrapper; first | (rw [if_pos (by decide +kernel)]; kernel_rfl) | (rw [if_neg (by decide +kernel)]; exact ⟨rfl, rfl⟩))
    (fun os started H enc _ => lifted os started H enc)

end Go.Proofs.Ytapgjgehpjppaaa.orderOfMatrix
