/- PROVED: the law FnAscentsAreMatrices returns true for every input, and each of its arguments reads afterwards as before. No conditions. -/
import Derived.Test.YtkpfjemlldiogaaRows
import Derived.WalkKit
import Derived.WalkSpells
import Derived.WalkLawsBesides
import Derived.Deep.QuietTactic
import Derived.BigQuiet
import Derived.ProofKit
import Derived.OpenShut
import Derived.ShutString
import Derived.ChangeOld
import Derived.Below
import Derived.Lib.SmallJoins
import Derived.Lib.Hide
import Derived.Maps.AppendAt
import Derived.Deep.AppendLies
import Derived.Shelf.Slices.Reverse
import Derived.Shelf.Slices.Equal
import Derived.Shelf.Slices.Clone
import Derived.Shelf.Slices.Delete
import Derived.Shelf.Slices.Cells
import Derived.Shelf.Slices.Empties
import Derived.Shelf.Slices.Empties2
import Derived.Shelf.SlicesE.Clone
import Derived.Sort.OwnSortedInts
import Derived.Lib.SliceRun
import Derived.Deep.RegionLaw
import Derived.Deep.RegionHeld3
import Derived.Deep.DeepCutAuto
import Derived.StillTail
import Derived.Shelf.Spec.SlicesInsertGrow
import Derived.Test.YtkpfjemlldiogaaAscentsAreMatricesP2
namespace Go.Proofs.Ytkpfjemlldiogaa.ascentsAreMatrices
open Go Go.RowKit
set_option linter.unusedVariables false
set_option linter.unusedSimpArgs false
set_option maxHeartbeats 400000
open Go.Shelf
theorem totS_sq {f : Nat → Nat → Int} {n m : Nat} : ∀ {k : Nat}, k ≤ n → totS (sqM f n m) k = k * m
  | 0, _ => by simp [totS]
  | k+1, h => by rw [totS, totS_sq (by omega), sqM_rlen (by omega), Nat.succ_mul]
theorem sq_small {f : Nat → Nat → Int} {n : Nat} (h : n ≤ 13) : (sqM f n n).length + totS (sqM f n n) (sqM f n n).length ≤ 1048576 := by
  rw [sqM_len, totS_sq (Nat.le_refl _)]
  have := Nat.mul_le_mul h h
  omega
set_option maxRecDepth 100000 in
set_option maxHeartbeats 1000000 in
theorem rowsOf_any (a : Option Addr) (xss : List (List Int)) (cap : Nat) (w : World) (hx : RdC w a xss) (hs : xss.length + totS xss xss.length ≤ 1048576) :
    Calls Try.prog 114 #[.agg #[.slice a xss.length cap]] w fun e w' => ∃ s va vn vc, e = .returned (.tuple #[.agg #[.int .i64 s, .slice va vn vc], .bool (mxB xss)]) ∧ (mxB xss = true → s = matS xss xss.length ∧ ∃ vl, SumP w' w.heap.size (.slice va vn vc) vl xss) ∧ Below w.heap.size w w' := by
  have hlen := hx.rd.len
  have HX := Lib.hid hx
  have HS := Lib.hid hs
  clear hx hs
  go_enter Try.func114, Try.ntmps114
  obtain ⟨W0, hW0⟩ : ∃ x : World, x = (w.alloc (.cells #[.slice a xss.length cap] 62)).alloc (.cells #[.int .i64 0, .slice none 0 0] 120) := ⟨_, rfl⟩
  have HW0 := Lib.hid hW0
  have b0 : Below w.heap.size w W0 := by rw [hW0]; exact (by repeat (first | exact Below.refl _ _ | assumption | refine Below.alloc ?_ (by first | exact Nat.le_refl _ | (simp only [World.size_alloc, World.size_setCell, World.size_drew]; omega) | omega) _ | refine Below.setCell ?_ (by first | exact Nat.le_refl _ | (simp only [World.size_alloc, World.size_setCell, World.size_drew]; omega) | omega) _ | refine Below.drew ?_))
  have c0 : W0.cell? ⟨w.heap.size, 0, none⟩ = some (.slice a xss.length cap) := by rw [hW0]; simp
  have hR0 : Var2 W0 (w.heap.size + 1) (.int .i64 0) (.slice none 0 0) := by
    have h := Var2.new (w.alloc (.cells #[.slice a xss.length cap] 62)) (.int .i64 0) (.slice none 0 0) 120
    rw [World.size_alloc] at h
    rw [hW0]; exact h
  have hz0 : w.heap.size + 2 = W0.heap.size := by rw [hW0]; simp
  have HCALL := Lib.hid (iAddUp_any a xss cap W0 (HX.out.below b0).rd HS.out)
  rw [hW0] at HCALL
  clear hW0
  go_wp2_with fail
  refine HCALL.out.mono ?_
  rintro e w1 ⟨s, va, vn, vc, rfl, hok, hb1⟩
  rw [← HW0.out] at hok hb1
  have b1 : Below w.heap.size w w1 := b0.trans (hb1.mono (by omega))
  have c1 := (hb1.cell (p := ⟨w.heap.size, 0, none⟩) (show w.heap.size < W0.heap.size by omega)).trans c0
  have hR1 := hR0.below hb1
  have hs1 := hb1.size
  clear hb1 b0 c0 hR0 HCALL HW0
  obtain ⟨W2, hW2⟩ : ∃ x : World, x = w1.alloc (.cells #[.int .i64 s, .slice va vn vc] 120) := ⟨_, rfl⟩
  have HW2 := Lib.hid hW2
  have bb2 : Below w1.heap.size w1 W2 := by rw [hW2]; exact (by repeat (first | exact Below.refl _ _ | assumption | refine Below.alloc ?_ (by first | exact Nat.le_refl _ | (simp only [World.size_alloc, World.size_setCell, World.size_drew]; omega) | omega) _ | refine Below.setCell ?_ (by first | exact Nat.le_refl _ | (simp only [World.size_alloc, World.size_setCell, World.size_drew]; omega) | omega) _ | refine Below.drew ?_))
  have b2 : Below w.heap.size w W2 := b1.trans (bb2.mono b1.size)
  have hA2 : Box2 W2 w1.heap.size (.int .i64 s) (.slice va vn vc) := by rw [hW2]; exact Box2.new _ _ _ _
  have hR2 := hR1.below bb2
  have c2 := (bb2.cell (p := ⟨w.heap.size, 0, none⟩) (show w.heap.size < w1.heap.size by omega)).trans c1
  have hs2 : w1.heap.size ≤ W2.heap.size := bb2.size
  clear hR1 c1
  subst hW2
  have ⟨zA2, cA2, dA2⟩ := hA2
  have ⟨⟨zR2, cR2, dR2⟩, fR2, gR2⟩ := hR2
  cases had : adB xss
  · have HF := Lib.hid had
    have HM : Hid (mxB xss = false) := by simp [Hid, mxB, had]
    clear had hok
    go_wp2_with fail
    have hR7 := hR2.set (.int .i64 s) (.slice va vn vc)
    have b7 := (b2.setCell (p := ⟨w.heap.size + 1, 0, none⟩) (by simp) (.int .i64 s)).setCell (p := ⟨w.heap.size + 1, 1, none⟩) (by simp) (.slice va vn vc)
    refine bodyPost_ret (v := .tuple #[.agg #[.int .i64 s, .slice va vn vc], .bool false]) (by have ⟨⟨_, q1, q2⟩, _, _⟩ := hR7; simp [results, Try.results114, go_sem, q1, q2]) rfl ?_
    exact ⟨s, va, vn, vc, by rw [HM.out], (by intro h; rw [HM.out] at h; cases h), b7⟩
  · have HF := Lib.hid had
    have HOK := Lib.hid (hok had)
    have h12 := adB_small had
    clear had hok
    have HUC := Lib.hid (isUpper_any a xss cap _ (HX.out.below b2))
    cases hup : upB xss
    · have HU := Lib.hid hup
      have HM : Hid (mxB xss = false) := by simp [Hid, mxB, hup]
      clear hup
      go_wp2_with fail
      refine HUC.out.mono ?_
      rintro e w3 ⟨rfl, hb3⟩
      rw [HU.out]
      have hA3 := hA2.below hb3
      have hR3 := hR2.below hb3
      have b3 := b2.trans (hb3.mono b2.size)
      have ⟨zA3, cA3, dA3⟩ := hA3
      have ⟨⟨zR3, cR3, dR3⟩, fR3, gR3⟩ := hR3
      clear hb3
      go_wp2_with fail
      have hR7 := hR3.set (.int .i64 s) (.slice va vn vc)
      have b7 := (b3.setCell (p := ⟨w.heap.size + 1, 0, none⟩) (by simp) (.int .i64 s)).setCell (p := ⟨w.heap.size + 1, 1, none⟩) (by simp) (.slice va vn vc)
      refine bodyPost_ret (v := .tuple #[.agg #[.int .i64 s, .slice va vn vc], .bool false]) (by have ⟨⟨_, q1, q2⟩, _, _⟩ := hR7; simp [results, Try.results114, go_sem, q1, q2]) rfl ?_
      exact ⟨s, va, vn, vc, by rw [HM.out], (by intro h; rw [HM.out] at h; cases h), b7⟩
    · have HU := Lib.hid hup
      have HL : Hid (∀ k, k < xss.length → (rowL xss k).length = xss.length) := fun k hk => (upB_iff.1 hup k hk).1
      have HM : Hid (mxB xss = adB (colsL xss)) := by rw [Hid, mxB, HF.out, hup]; rfl
      clear hup
      go_wp2_with fail
      refine HUC.out.mono ?_
      rintro e w3 ⟨rfl, hb3⟩
      rw [HU.out]
      have hA3 := hA2.below hb3
      have hR3 := hR2.below hb3
      have b3 := b2.trans (hb3.mono b2.size)
      have hs3 : w1.heap.size ≤ w3.heap.size := by have := hb3.size; simp at this; omega
      have c3 := (hb3.cell (p := ⟨w.heap.size, 0, none⟩) (by simp; omega)).trans c2
      have ⟨zA3, cA3, dA3⟩ := hA3
      have ⟨⟨zR3, cR3, dR3⟩, fR3, gR3⟩ := hR3
      have bb3 : Below w1.heap.size w1 w3 := bb2.trans (hb3.mono (by simp))
      clear hb3
      go_wp2_with fail
      refine (columnsOf_any a xss cap _ (HX.out.below b3).rd h12 HL.out).mono ?_
      rintro e w4 ⟨g, vlc, rfl, hro, hb4⟩
      have hA4 := hA3.below hb4
      have hR4 := hR3.below hb4
      have b4 := b3.trans (hb4.mono b3.size)
      have hs4 : w3.heap.size ≤ w4.heap.size := hb4.size
      have ⟨zA4, cA4, dA4⟩ := hA4
      have ⟨⟨zR4, cR4, dR4⟩, fR4, gR4⟩ := hR4
      have hAU := iAddUp_any (some ⟨g, 0, none⟩) (colsL xss) xss.length w4 hro.o.rd (by rw [colsL_sq]; exact sq_small (by omega))
      rw [← HM.out, colsL_len] at hAU
      have HAU := Lib.hid hAU
      have bb4 : Below w1.heap.size w1 w4 := bb3.trans (hb4.mono hs3)
      clear hb4 hro hAU
      go_wp2_with fail
      refine HAU.out.mono ?_
      rintro e w5 ⟨s5, va5, vn5, vc5, rfl, _, hb5⟩
      have hA5 := hA4.below hb5
      have hR5 := hR4.below hb5
      have b5 := b4.trans (hb5.mono b4.size)
      have bb5 : Below w1.heap.size w1 w5 := bb4.trans (hb5.mono (by omega))
      have ⟨zA5, cA5, dA5⟩ := hA5
      have ⟨⟨zR5, cR5, dR5⟩, fR5, gR5⟩ := hR5
      have hs5 : w4.heap.size ≤ w5.heap.size := hb5.size
      clear hb5
      go_wp2_with fail
      have hR7 := hR5.set (.int .i64 s) (.slice va vn vc)
      have b7 := (b5.setCell (p := ⟨w.heap.size + 1, 0, none⟩) (by simp) (.int .i64 s)).setCell (p := ⟨w.heap.size + 1, 1, none⟩) (by simp) (.slice va vn vc)
      refine bodyPost_ret (v := .tuple #[.agg #[.int .i64 s, .slice va vn vc], .bool (mxB xss)]) (by have ⟨⟨_, q1, q2⟩, _, _⟩ := hR7; simp [results, Try.results114, go_sem, q1, q2]) rfl ?_
      refine ⟨s, va, vn, vc, rfl, fun _ => ⟨HOK.out.1, ?_⟩, b7⟩
      obtain ⟨vl, hp⟩ := HOK.out.2
      have hp5 := hp.below bb5 (Nat.le_refl _)
      have hset : ∀ (p : Addr) (u : Value) (w9 : World), p.block = w.heap.size + 1 → SumP w9 W0.heap.size (.slice va vn vc) vl xss → SumP (w9.setCell p u) W0.heap.size (.slice va vn vc) vl xss := fun p u w9 e h =>
        ⟨ownsRow_setCell_below h.own (by rw [e]; omega) u, h.vlen, fun k hk => (h.row k hk).setBelow (by rw [e]; omega) u, h.apart, h.pair⟩
      exact ⟨vl, (hset _ _ _ rfl (hset _ _ _ rfl hp5)).mono (by omega)⟩

theorem iIsMatrix_any (a : Option Addr) (xss : List (List Int)) (cap : Nat) (w : World) (hx : RdC w a xss) (hs : xss.length + totS xss xss.length ≤ 1048576) :
    Calls Try.prog 119 #[.agg #[.slice a xss.length cap]] w fun e w' => e = .returned (.bool (mxB xss)) ∧ Below w.heap.size w w' := by
  have hlen := hx.rd.len
  go_enter Try.func119, Try.ntmps119
  go_wp2_with fail
  refine (rowsOf_any _ _ _ _ (hx.below (by repeat (first | exact Below.refl _ _ | assumption | refine Below.alloc ?_ (by first | exact Nat.le_refl _ | (simp only [World.size_alloc, World.size_setCell, World.size_drew]; omega) | omega) _ | refine Below.setCell ?_ (by first | exact Nat.le_refl _ | (simp only [World.size_alloc, World.size_setCell, World.size_drew]; omega) | omega) _ | refine Below.drew ?_))) hs).mono ?_
  rintro e w1 ⟨s, va, vn, vc, rfl, _, hb⟩
  have b1 : Below w.heap.size w w1 := Below.trans (by repeat (first | exact Below.refl _ _ | assumption | refine Below.alloc ?_ (by first | exact Nat.le_refl _ | (simp only [World.size_alloc, World.size_setCell, World.size_drew]; omega) | omega) _ | refine Below.setCell ?_ (by first | exact Nat.le_refl _ | (simp only [World.size_alloc, World.size_setCell, World.size_drew]; omega) | omega) _ | refine Below.drew ?_)) (hb.mono (by first | (simp only [World.size_alloc, World.size_setCell, World.size_drew]; omega) | omega))
  clear hb
  go_wp2_with fail
  go_ret
  exact ⟨rfl, b1.alloc b1.size _⟩

theorem ret_ib' {a a' : Int} {b b' : Bool} (h1 : a = a') (h2 : b = b') : Ending.returned (.tuple #[.int .i64 a, .bool b]) = .returned (.tuple #[.int .i64 a', .bool b']) := by rw [h1, h2]

set_option maxRecDepth 100000 in
theorem iTopMx_any (a : Option Addr) (xss : List (List Int)) (cap : Nat) (w : World) (hx : RdC w a xss) (hs : xss.length + totS xss xss.length ≤ 1048576) :
    Calls Try.prog 54 #[.agg #[.slice a xss.length cap]] w fun e w' => e = .returned (.tuple #[.int .i64 (topV xss), .bool (topB xss)]) ∧ Below w.heap.size w w' := by
  have hlen := hx.rd.len
  have HX := Lib.hid hx
  have HCL := Lib.hid (fun W (h : RdC W a xss) => iIsMatrix_any a xss cap W h hs)
  cases hm : mxB xss
  · have HM := Lib.hid hm
    have H2 : Hid (topB xss = false) := by simp [Hid, topB, hm]
    have H1 : Hid (topV xss = 0) := by rw [Hid, topV, H2.out]; rfl
    clear hm
    go_enter Try.func54, Try.ntmps54
    go_wp2_with fail
    refine (HCL.out _ (hx.below (by repeat (first | exact Below.refl _ _ | assumption | refine Below.alloc ?_ (by first | exact Nat.le_refl _ | (simp only [World.size_alloc, World.size_setCell, World.size_drew]; omega) | omega) _ | refine Below.setCell ?_ (by first | exact Nat.le_refl _ | (simp only [World.size_alloc, World.size_setCell, World.size_drew]; omega) | omega) _ | refine Below.drew ?_)))).mono ?_
    rintro e w1 ⟨rfl, hb⟩
    rw [HM.out]
    have b1 : Below w.heap.size w w1 := Below.trans (by repeat (first | exact Below.refl _ _ | assumption | refine Below.alloc ?_ (by first | exact Nat.le_refl _ | (simp only [World.size_alloc, World.size_setCell, World.size_drew]; omega) | omega) _ | refine Below.setCell ?_ (by first | exact Nat.le_refl _ | (simp only [World.size_alloc, World.size_setCell, World.size_drew]; omega) | omega) _ | refine Below.drew ?_)) (hb.mono (by first | (simp only [World.size_alloc, World.size_setCell, World.size_drew]; omega) | omega))
    clear hb
    go_wp2_with fail
    go_ret2
    exact ⟨ret_ib' H1.out.symm H2.out.symm, b1⟩
  · have HM := Lib.hid hm
    have h12 := mxB_small hm
    clear hm
    by_cases h0 : xss.length = 0
    · have h00 : ((xss.length : Int) == 0) = true := by simp [h0]
      have H2 : Hid (topB xss = false) := by simp [Hid, topB, h0]
      have H1 : Hid (topV xss = 0) := by rw [Hid, topV, H2.out]; rfl
      clear h0
      go_enter Try.func54, Try.ntmps54
      go_wp2_with fail
      refine (HCL.out _ (hx.below (by repeat (first | exact Below.refl _ _ | assumption | refine Below.alloc ?_ (by first | exact Nat.le_refl _ | (simp only [World.size_alloc, World.size_setCell, World.size_drew]; omega) | omega) _ | refine Below.setCell ?_ (by first | exact Nat.le_refl _ | (simp only [World.size_alloc, World.size_setCell, World.size_drew]; omega) | omega) _ | refine Below.drew ?_)))).mono ?_
      rintro e w1 ⟨rfl, hb⟩
      rw [HM.out]
      have b1 : Below w.heap.size w w1 := Below.trans (by repeat (first | exact Below.refl _ _ | assumption | refine Below.alloc ?_ (by first | exact Nat.le_refl _ | (simp only [World.size_alloc, World.size_setCell, World.size_drew]; omega) | omega) _ | refine Below.setCell ?_ (by first | exact Nat.le_refl _ | (simp only [World.size_alloc, World.size_setCell, World.size_drew]; omega) | omega) _ | refine Below.drew ?_)) (hb.mono (by first | (simp only [World.size_alloc, World.size_setCell, World.size_drew]; omega) | omega))
      have hc0 := (hb.cell (p := ⟨w.heap.size, 0, none⟩) (by simp)).trans (show _ = some (Value.slice a xss.length cap) by simp)
      clear hb
      go_wp2_with fail
      go_ret2
      exact ⟨ret_ib' H1.out.symm H2.out.symm, b1⟩
    · have h00 : ((xss.length : Int) == 0) = false := by simp only [beq_eq_false_iff_ne, ne_eq]; omega
      have H2 : Hid (topB xss = true) := by simp only [Hid, topB, HM.out, Bool.true_and, decide_eq_true_eq]; exact h0
      have H1 : Hid (topV xss = ((topN xss : Nat) : Int)) := by rw [Hid, topV, H2.out]; rfl
      have hpos : 1 ≤ xss.length := by omega
      have htl := topN_lt HM.out (by omega)
      have HZ : Hid (∀ j, j < topN xss → atM xss j (xss.length - 1) = 0) := fun j hj => topN_zero hj
      have HNE := Lib.hid (topN_ne HM.out (by omega))
      obtain ⟨T, hT⟩ : ∃ T, T = topN xss := ⟨_, rfl⟩
      rw [← hT] at H1 htl HZ HNE
      clear h0 hT
      go_enter Try.func54, Try.ntmps54
      go_wp2_with fail
      refine (HCL.out _ (hx.below (by repeat (first | exact Below.refl _ _ | assumption | refine Below.alloc ?_ (by first | exact Nat.le_refl _ | (simp only [World.size_alloc, World.size_setCell, World.size_drew]; omega) | omega) _ | refine Below.setCell ?_ (by first | exact Nat.le_refl _ | (simp only [World.size_alloc, World.size_setCell, World.size_drew]; omega) | omega) _ | refine Below.drew ?_)))).mono ?_
      rintro e w1 ⟨rfl, hb⟩
      rw [HM.out]
      have b1 : Below w.heap.size w w1 := Below.trans (by repeat (first | exact Below.refl _ _ | assumption | refine Below.alloc ?_ (by first | exact Nat.le_refl _ | (simp only [World.size_alloc, World.size_setCell, World.size_drew]; omega) | omega) _ | refine Below.setCell ?_ (by first | exact Nat.le_refl _ | (simp only [World.size_alloc, World.size_setCell, World.size_drew]; omega) | omega) _ | refine Below.drew ?_)) (hb.mono (by first | (simp only [World.size_alloc, World.size_setCell, World.size_drew]; omega) | omega))
      have hc0 := (hb.cell (p := ⟨w.heap.size, 0, none⟩) (by simp)).trans (show _ = some (Value.slice a xss.length cap) by simp)
      have hcast : ((xss.length : Int) - 1) = ((xss.length - 1 : Nat) : Int) := by omega
      have hrow : ∀ (k : Nat) (W : World), k < xss.length → Below w.heap.size w W → ∃ b off b2 off2 cap', a = some ⟨b, off, none⟩ ∧ W.cell? ⟨b, off + k, none⟩ = some (.slice (some ⟨b2, off2, none⟩) xss.length cap') ∧ W.cell? ⟨b2, off2 + (xss.length - 1), none⟩ = some (.int .i64 (atM xss k (xss.length - 1))) ∧ b < W.heap.size ∧ b2 < W.heap.size := by
        intro k W hk hbW
        obtain ⟨b, off, a', cap', e1, hbl, hc, hr, _⟩ := (HX.out.below hbW).row hk
        have hl := mxB_len HM.out hk
        obtain ⟨b2, off2, e2, hbl2, hc2⟩ := hr.cell (xss.length - 1) (by omega)
        rw [hl, e2] at hc
        exact ⟨b, off, b2, off2, cap', e1, hc, hc2, hbl, hbl2⟩
      have HROW := Lib.hid hrow
      clear hb hx hrow
      go_wp2_with fail
      go_region
      all_goals
        have hdr : Below w.heap.size w (w1.drew) := b1.drew
        go_wp2_with fail
        go_loop [4] (fun i => ∃ k : Nat, k ≤ T ∧ i = .int .i64 k) (fun i => T + 1 - (intOf i).toNat)
        case atStart => exact ⟨0, Nat.zero_le _, rfl⟩
        case round =>
          obtain ⟨k, hk, rfl⟩ := hrel
          obtain ⟨b, off, b2, off2, cap', rfl, hc, hc2, hbl, hbl2⟩ := HROW.out k _ (by omega) hdr
          have k1 : (k : Int) < (xss.length : Int) := by omega
          by_cases hlt : k < T
          · have hz := HZ.out k hlt
            rw [hz] at hc2
            have hzz : ((0 : Int) == 0) = true := rfl
            clear hz
            go_wp2_with fail
            go_round
            case rel => exact ⟨k + 1, by omega, by go_num⟩
            case measure => simp [intOf]; omega
          · obtain rfl : k = T := by omega
            have hz := HNE.out
            obtain ⟨Z, hZ⟩ : ∃ Z, Z = atM xss k (xss.length - 1) := ⟨_, rfl⟩
            rw [← hZ] at hz hc2
            have hzz : (Z == 0) = false := by simp [hz]
            clear hz hZ
            go_wp2_with fail
            go_ret2
            exact ⟨ret_ib' H1.out.symm H2.out.symm, hdr⟩

theorem SumP.vn {w : World} {B n c : Nat} {a : Option Addr} {vl : List Value} {xss : List (List Int)} (h : SumP w B (.slice a n c) vl xss) : n = xss.length := by
  obtain ⟨a2, c2, e⟩ := h.form
  simp only [Value.slice.injEq] at e
  exact e.2.1

set_option maxRecDepth 100000 in
theorem numbersOf_any (s : Int) (va : Option Addr) (vc B : Nat) (vl : List Value) (xss : List (List Int)) (w : World) (hp : SumP w B (.slice va xss.length vc) vl xss) (hB : B ≤ w.heap.size) (h63 : xss.length ≤ 1048576) :
    Calls Try.prog 169 #[.agg #[.int .i64 s, .slice va xss.length vc]] w fun e w' => ∃ g, e = .returned (.slice (some ⟨g, 0, none⟩) xss.length xss.length) ∧ RowsP w' B (.slice (some ⟨g, 0, none⟩) xss.length xss.length) vl xss ∧ Below w.heap.size w w' := by
  obtain ⟨j0, hj0, hy0, hy1, hy2⟩ := info_parts infoRow0
  have HP := Lib.hid hp
  have hvl := hp.vlen
  clear hp
  obtain ⟨N, hN⟩ : ∃ N, N = xss.length := ⟨_, rfl⟩
  have HN := Lib.hid hN
  rw [← hN] at h63 hvl ⊢
  have HVL := Lib.hid hvl
  have HP2 : Hid (SumP w B (.slice va N vc) vl xss) := by rw [hN]; exact HP.out
  clear hN HP hvl
  go_enter Try.func169, Try.ntmps169
  go_wp2_with (
    at_make
    refine wpList_make_full _ rfl (.tmp 8) (.tmp 8) 60 rfl (w.heap.size + 1) 24 j0 (.slice none 0 0) 1 Try.underlying60 hj0 hy0 hy1 .i64 .i64 _ _ N rfl rfl rfl rfl (by rw [hy2]; omega) (by unfold maxLen; omega) (by simp) ?_
    intro w1 hown hgrow
    have bw1 : Below w.heap.size w w1 := Below.trans (B := w.heap.size) ((Below.refl _ _).alloc (Nat.le_refl _) _) (below_grown_none hgrow (by simp))
    have hc1 : w1.cell? ⟨w.heap.size, 1, none⟩ = some (.slice va N vc) := hgrow.cell (by simp) (by simp)
    have hz1' : w.heap.size + 1 < w1.heap.size := by
      have := (World.ownsRow.lt hown (w.heap.size + 1) (by simp [Value.ownBlock])).2
      omega)
  have HO0 : Hid (w1.ownsRow (w.heap.size + 1) 24 1 (.slice (some ⟨w.heap.size + 1, 0, none⟩) N N) N (nVal vl N 0)) := by
    rw [Hid, nVal_zero]
    simpa [Value.cells, toList_madeCells_one] using hown
  clear hown hgrow
  go_loopw [13] (fun i wr => ∃ k : Nat, k ≤ N ∧ i = .int .i64 k ∧ wr.ownsRow (w.heap.size + 1) 24 1 (.slice (some ⟨w.heap.size + 1, 0, none⟩) N N) N (nVal vl N k) ∧ Below w.heap.size w wr ∧ w.heap.size + 1 < wr.heap.size) (fun i _ => N - (intOf i).toNat)
  case atStart => exact ⟨0, Nat.zero_le _, rfl, HO0.out, bw1, hz1'⟩
  case round =>
    obtain ⟨k, hk, rfl, hown2, hb, hgz⟩ := hrel
    have hbs := hb.size
    by_cases hlt : k < N
    · have k1 : (k : Int) < (N : Int) := by omega
      have hpr := HP2.out.below hb (Nat.le_refl _)
      obtain ⟨g0, rfl, hg0, hcA, hcB⟩ := hpr.at (k := k) (by rw [← HN.out]; exact hlt)
      obtain ⟨ar, cr, er⟩ := (hpr.row k (by rw [← HN.out]; exact hlt)).form
      rw [er] at hcB
      obtain ⟨T, hT⟩ : ∃ T, T = totR (rowL xss k) := ⟨_, rfl⟩
      rw [← hT] at hcA
      have hst := (World.ownsRow.stored hown2 k (valAt vl k)).1
      rw [nVal_step hlt, er] at hst
      have hst := ownsRow_bel hst (w' := (wr.setCell ⟨w.heap.size + 1, k, none⟩ (.slice ar (rowL xss k).length cr)).alloc (.cells #[.int .i64 T, .slice ar (rowL xss k).length cr] 161)) ((Below.refl _ _).alloc (Nat.le_refl _) _) (Nat.le_refl _)
      have hcc := World.ownsRow.cellAt hown2 k (by omega)
      have hfr := World.ownsRow.frozenAt hown2 k
      have hcc' : ∃ u, wr.cell? ⟨w.heap.size + 1, k, none⟩ = some u := by
        rw [hcc]
        exact ⟨_, List.getElem?_eq_getElem (by rw [nVal_len]; omega)⟩
      obtain ⟨u, hu⟩ := hcc'
      have Hst := Lib.hid hst
      have b3 : Below w.heap.size w ((wr.setCell ⟨w.heap.size + 1, k, none⟩ (.slice ar (rowL xss k).length cr)).alloc (.cells #[.int .i64 T, .slice ar (rowL xss k).length cr] 161)) := (hb.setCell (by simp) _).alloc (by simpa using hbs) _
      clear hst hcc hown2 hpr er hT
      go_wp2_with fail
      go_roundw
      case rel => exact ⟨k + 1, by omega, by go_num, Hst.out, b3, by simp; omega⟩
      case measure => simp [intOf]; omega
    · obtain rfl : k = N := by omega
      rw [nVal_end HVL.out] at hown2
      have HO := Lib.hid hown2
      have hpr := Lib.hid (HP2.out.below hb (Nat.le_refl _))
      have HLT := Lib.hid HP2.out.blk
      clear hown2
      go_wp2_with fail
      go_ret
      refine ⟨w.heap.size + 1, rfl, ⟨⟨?_, hpr.out.row, fun i hi c hc h => ?_⟩, hpr.out.pair⟩, hb⟩
      · rw [← HN.out]
        refine ⟨HO.out.1, ?_⟩
        rcases HO.out.2 with hn | ⟨g, cap, cur, e, hb', rest⟩
        · exact .inl hn
        · exact .inr ⟨g, cap, cur, e, by omega, rest⟩
      · have := HLT.out.2 i hi c hc
        simp only [Value.ownBlock, Option.some.injEq] at h
        omega

set_option maxRecDepth 100000 in
set_option maxHeartbeats 1000000 in
theorem iGrow_any (a : Option Addr) (xss : List (List Int)) (cap : Nat) (p : Int) (w : World) (hx : RdC w a xss) (hs : xss.length + totS xss xss.length ≤ 1048576) (hp : -9223372036854775808 ≤ p ∧ p ≤ 9223372036854775807) :
    Calls Try.prog 110 #[.agg #[.slice a xss.length cap], .int .i64 p] w fun e w' => ∃ a0 c0 vl, e = .returned (.tuple #[.agg #[.slice a0 (gwL xss p).length c0], .bool (gwB xss p)]) ∧ RowsP w' w.heap.size (.slice a0 (gwL xss p).length c0) vl (gwL xss p) ∧ Below w.heap.size w w' := by
  have hlen := hx.rd.len
  have hV := Var1.new (w.alloc (.cells #[.slice a xss.length cap] 62)) (.slice none 0 0) 62
  have hA := (Box1.new w (.slice a xss.length cap) 62).below ((Below.refl _ _).alloc (Nat.le_refl _) (.cells #[.slice none 0 0] 62))
  have hb0 : Below w.heap.size w ((w.alloc (.cells #[.slice a xss.length cap] 62)).alloc (.cells #[.slice none 0 0] 62)) := (by repeat (first | exact Below.refl _ _ | assumption | refine Below.alloc ?_ (by first | exact Nat.le_refl _ | (simp only [World.size_alloc, World.size_setCell, World.size_drew]; omega) | omega) _ | refine Below.setCell ?_ (by first | exact Nat.le_refl _ | (simp only [World.size_alloc, World.size_setCell, World.size_drew]; omega) | omega) _ | refine Below.drew ?_))
  rw [World.size_alloc] at hV
  have HTP := Lib.hid (fun W (h : RdC W a xss) => iTopMx_any a xss cap W h hs)
  have HRC := Lib.hid (fun W (h : RdC W a xss) => rowsOf_any a xss cap W h hs)
  have HX := Lib.hid hx
  cases hm : mxB xss
  · have HM := Lib.hid hm
    have H1 : Hid (gwB xss p = false) := by simp [Hid, gwB, hm]
    have H2 : Hid (gwL xss p = []) := by rw [Hid, gwL, H1.out]; rfl
    clear hm
    go_enter Try.func110, Try.ntmps110
    go_wp2_with fail
    refine (HRC.out _ (HX.out.below hb0)).mono ?_
    rintro e w2 ⟨s, va, vn, vc, rfl, hok, hb2⟩
    rw [HM.out]
    have b2 := hb0.trans (hb2.mono (by simp; omega))
    have hV2 := (hV.below hb2).alloc (.cells #[.int .i64 s, .slice va vn vc] 120)
    have b2' := b2.alloc b2.size (.cells #[.int .i64 s, .slice va vn vc] 120)
    have ⟨⟨zV, cV⟩, fV⟩ := hV2
    clear hb2 hok hV b2 hA
    go_wp2_with fail
    have hV3 := hV2.set (.slice none 0 0)
    have b3 := b2'.setCell (p := ⟨w.heap.size + 1, 0, none⟩) (by simp) (.slice none 0 0)
    refine bodyPost_ret (v := .tuple #[.agg #[.slice none 0 0], .bool false]) (by have ⟨⟨_, q1⟩, _⟩ := hV3; simp [results, Try.results110, go_sem, q1]) rfl ?_
    exact ⟨none, 0, [], by rw [H1.out, H2.out]; rfl, by rw [H2.out]; exact RowsP.nil _ _, b3⟩
  · have HM := Lib.hid hm
    have h12 := mxB_small hm
    have hmS := (adB_iff.1 (mxB_iff.1 hm).1).2
    have hmN : 0 ≤ matS xss xss.length := matS_nn (fun j hj => by have := ((adB_iff.1 (mxB_iff.1 hm).1).1 j hj).2; omega)
    clear hm
    go_enter Try.func110, Try.ntmps110
    go_wp2_with fail
    refine (HRC.out _ (HX.out.below hb0)).mono ?_
    rintro e w2 ⟨s, va, vn, vc, rfl, hok, hb2⟩
    rw [HM.out]
    obtain ⟨hsS, vl, hpp⟩ := hok HM.out
    obtain rfl := hpp.vn
    have b2 := hb0.trans (hb2.mono (by simp; omega))
    have hV2 := (hV.below hb2).alloc (.cells #[.int .i64 s, .slice va xss.length vc] 120)
    have hA2 := (hA.below hb2).below ((Below.refl _ _).alloc (Nat.le_refl _) (.cells #[.int .i64 s, .slice va xss.length vc] 120))
    have b2' := b2.alloc b2.size (.cells #[.int .i64 s, .slice va xss.length vc] 120)
    have hP2 := Var2.new w2 (.int .i64 s) (.slice va xss.length vc) 120
    have hz2 : w.heap.size + 2 ≤ w2.heap.size := by have := hb2.size; simp at this; omega
    have hp2 := hpp.below ((Below.refl _ _).alloc (Nat.le_refl _) (.cells #[.int .i64 s, .slice va xss.length vc] 120)) (Nat.le_refl _)
    have hp2 := hp2.mono (B' := w.heap.size + 2) (by simp)
    have HPB := Lib.hid hpp.blk
    have HPP := Lib.hid hpp
    have HV0 := Lib.hid (hV.below hb2)
    have HA0 := Lib.hid (hA.below hb2)
    have HB0 := Lib.hid b2
    have ⟨⟨zV, cV⟩, fV⟩ := hV2
    have ⟨zA, cA⟩ := hA2
    have HP2 := Lib.hid hp2
    have HV2 := Lib.hid hV2
    have HA2 := Lib.hid hA2
    have HQ2 := Lib.hid hP2
    have HSS := Lib.hid hsS
    clear hb2 hok hpp hp2 hV b2 hA hb0 hV2 hP2 hA2
    by_cases hp0 : p < 0
    · have H1 : Hid (gwB xss p = false) := by rw [Hid, ← Bool.not_eq_true, gwB_iff]; omega
      have H2 : Hid (gwL xss p = []) := by rw [Hid, gwL, H1.out]; rfl
      clear hsS
      go_wp2_with fail
      have hV3 := HV2.out.set (.slice none 0 0)
      have b3 := b2'.setCell (p := ⟨w.heap.size + 1, 0, none⟩) (by simp) (.slice none 0 0)
      refine bodyPost_ret (v := .tuple #[.agg #[.slice none 0 0], .bool false]) (by have ⟨⟨_, q1⟩, _⟩ := hV3; simp [results, Try.results110, go_sem, q1]) rfl ?_
      exact ⟨none, 0, [], by rw [H1.out, H2.out]; rfl, by rw [H2.out]; exact RowsP.nil _ _, b3⟩
    · by_cases hpN : (xss.length : Int) < p
      · have H1 : Hid (gwB xss p = false) := by rw [Hid, ← Bool.not_eq_true, gwB_iff]; omega
        have H2 : Hid (gwL xss p = []) := by rw [Hid, gwL, H1.out]; rfl
        clear hsS
        go_wp2_with fail
        have hV3 := HV2.out.set (.slice none 0 0)
        have b3 := b2'.setCell (p := ⟨w.heap.size + 1, 0, none⟩) (by simp) (.slice none 0 0)
        refine bodyPost_ret (v := .tuple #[.agg #[.slice none 0 0], .bool false]) (by have ⟨⟨_, q1⟩, _⟩ := hV3; simp [results, Try.results110, go_sem, q1]) rfl ?_
        exact ⟨none, 0, [], by rw [H1.out, H2.out]; rfl, by rw [H2.out]; exact RowsP.nil _ _, b3⟩
      · have HADD := Lib.hid (iAdd_any w2.heap.size s 1 _ _ HQ2.out (by omega))
        by_cases hp12 : matS xss xss.length < 12
        · obtain ⟨x, rfl⟩ : ∃ x : Nat, p = (x : Int) := ⟨p.toNat, by omega⟩
          have H1 : Hid (gwB xss (x : Int) = true) := by rw [Hid, gwB_iff]; exact ⟨HM.out, by omega, by omega, hp12⟩
          have hxN : x ≤ xss.length := by omega
          have H2 : Hid (gwL xss (x : Int) = if (x : Int) ≤ topI xss then sqM (grAI (atM xss) xss.length x) xss.length xss.length else sqM (grBI (atM xss) xss.length x) (xss.length + 1) (xss.length + 1)) := by rw [Hid, gwL, H1.out, if_pos rfl, Int.toNat_natCast, grL_eq HM.out hxN]
          have H3 : Hid (addB s 1 = true) := by rw [Hid, addB_iff]; omega
          have hs12 : 0 ≤ s ∧ s < 12 := by omega
          have HE := Lib.hid (mx_eta HM.out)
          have HMX := Lib.hid (fun i (hi : i < xss.length) => mxB_len HM.out hi)
          have HNUMB := Lib.hid (fun i j (hi : i < xss.length) (hj : j < xss.length) => mxB_num HM.out hi (j := j) hj)
          have HTL := Lib.hid (fun (h : 0 < xss.length) => topN_lt HM.out h)
          have bq : Below w2.heap.size w2 ((w2.alloc (.cells #[.int .i64 s, .slice va xss.length vc] 120)).setCell ⟨w2.heap.size, 0, none⟩ (.int .i64 (s + 1))) := ((Below.refl _ _).alloc (Nat.le_refl _) _).setCell (p := ⟨w2.heap.size, 0, none⟩) (Nat.le_refl _) _
          have hp3 := (HPP.out.below bq (Nat.le_refl _)).mono (B' := w.heap.size + 2) (by simp)
          have hV3 := HV0.out.below bq
          have hA3 := HA0.out.below bq
          have b3 := HB0.out.trans (bq.mono HB0.out.size)
          have hQ3 := HQ2.out.set0 (.int .i64 (s + 1))
          clear hsS b2' hp12
          go_wp2_with fail
          refine HADD.out.mono ?_
          rintro e w3' ⟨rfl, rfl⟩
          clear cA cV fV zV zA
          rw [addW, H3.out, if_pos rfl]
          generalize hW3 : (w2.alloc (.cells #[.int .i64 s, .slice va xss.length vc] 120)).setCell ⟨w2.heap.size, 0, none⟩ (.int .i64 (s + 1)) = w3 at hp3 hV3 hA3 b3 hQ3 bq ⊢
          clear hW3
          have hz3 : w.heap.size + 2 ≤ w3.heap.size := by have := bq.size; omega
          have HNUM := Lib.hid (numbersOf_any (s + 1) va vc (w.heap.size + 2) vl xss w3 hp3 hz3 (by omega))
          have ⟨⟨zQ3, cQ3, dQ3⟩, fQ3, gQ3⟩ := hQ3
          have ⟨zA3, cA3⟩ := hA3
          have HV3 := Lib.hid hV3
          have HA3 := Lib.hid hA3
          clear hp3 hV3 hA3 hQ3 bq
          go_wp2_with fail
          refine HNUM.out.mono ?_
          rintro e w4 ⟨g, rfl, hro4, hb4⟩
          have b4 := b3.trans (hb4.mono b3.size)
          have hV4 := HV3.out.below hb4
          have hA4 := HA3.out.below hb4
          have ⟨zA4, cA4⟩ := hA4
          have HR4 := Lib.hid hro4
          have HV4 := Lib.hid hV4
          have hz4 : w.heap.size + 2 ≤ w4.heap.size := by have := hb4.size; omega
          clear hb4 hro4 hV4 HNUM cA3 cQ3 dQ3
          go_wp2_with fail
          refine (HTP.out _ (HX.out.below b4)).mono ?_
          rintro e w5 ⟨rfl, hb5⟩
          have b5 := b4.trans (hb5.mono b4.size)
          have hV5 := HV4.out.below hb5
          have hro5 := HR4.out.below hb5 (Nat.le_refl _)
          have hz5 : w.heap.size + 2 ≤ w5.heap.size := by have := hb5.size; omega
          clear hb5
          obtain ⟨N, hN⟩ : ∃ N, N = xss.length := ⟨_, rfl⟩
          have HN := Lib.hid hN
          rw [HE.out, ← hN] at hro5
          rw [← hN] at H2 hxN h12 HMX HNUMB HTL hlen
          obtain ⟨f, hf⟩ : ∃ f, f = atM xss := ⟨_, rfl⟩
          rw [← hf] at hro5 H2 HNUMB
          simp only [sqM_len] at hro5
          have HFF := Lib.hid hf
          by_cases ht : (x : Int) ≤ topI xss
          · rw [if_pos ht] at H2
            have hpos : 0 < N := by
              apply Classical.byContradiction
              intro h
              rw [topI, if_pos (by omega)] at ht
              omega
            rw [topI, if_neg (by omega)] at ht
            have HTB : Hid (topB xss = true) := by simp [Hid, topB, HM.out]; intro h; rw [h] at hN; simp at hN; omega
            have HTV : Hid (topV xss = ((topN xss : Nat) : Int)) := by rw [Hid, topV, HTB.out]; rfl
            rw [HTB.out, HTV.out]
            have htl := HTL.out hpos
            obtain ⟨T, hT⟩ : ∃ T, T = topN xss := ⟨_, rfl⟩
            rw [← hT] at ht htl ⊢
            have hxT : ¬ (T : Int) < (x : Int) := by omega
            have hxN1 : x < N := by omega
            have hN1 : N - 1 < N := by omega
            have hcast : ((N : Int) - 1) = ((N - 1 : Nat) : Int) := by omega
            rw [← hN]
            obtain ⟨g4, e4, hg4, hg5, hc4, hf4⟩ := hro5.outer (k := x) (by rw [sqM_len]; exact hxN1)
            simp only [Option.some.injEq, Addr.mk.injEq, and_true] at e4
            subst e4
            obtain ⟨g6, c6, e6, hg6, hg7, hc6, hf6, hnew⟩ := hro5.num (i := x) (j := N - 1) (by rw [sqM_len]; exact hxN1) (by rw [sqM_rlen hxN1]; omega)
            rw [e6, sqM_rlen hxN1] at hc4
            rw [sqM_at hxN1 hN1] at hc6
            have ⟨hz0, hz9⟩ := HNUMB.out x (N - 1) hxN1 hN1
            have hset := hnew (f x (N - 1) + 1)
            rw [setM_sq hxN1 hN1] at hset
            have b6 := b5.setCell (p := ⟨g6, N - 1, none⟩) (show w.heap.size ≤ g6 by omega) (.int .i64 (f x (N - 1) + 1))
            have hV6 := hV5.other (p := ⟨g6, N - 1, none⟩) (.int .i64 (f x (N - 1) + 1)) (show w.heap.size + 1 ≠ g6 by omega)
            have hset2 : RowsP (w5.setCell ⟨g6, N - 1, none⟩ (.int .i64 (f x (N - 1) + 1))) (w.heap.size + 2) (.slice (some ⟨g, 0, none⟩) N N) vl (sqM (grAI f N x) N N) := hset
            obtain ⟨Z, hZ⟩ : ∃ Z, Z = f x (N - 1) := ⟨_, rfl⟩
            rw [← hZ] at hc6 hset2 b6 hV6 hz0 hz9
            have HS6 := Lib.hid hset2
            have HV6 := Lib.hid hV6
            have ⟨⟨zV6, cV6⟩, fV6⟩ := hV6
            clear hro5 hnew hset hset2 hV6 hV5 e6 hZ hT hf hN
            go_wp2_with fail
            have hV7 := HV6.out.set (.slice (some ⟨g, 0, none⟩) N N)
            have b7 := b6.setCell (p := ⟨w.heap.size + 1, 0, none⟩) (by simp) (.slice (some ⟨g, 0, none⟩) N N)
            refine bodyPost_ret (v := .tuple #[.agg #[.slice (some ⟨g, 0, none⟩) N N], .bool true]) (by have ⟨⟨_, q1⟩, _⟩ := hV7; simp [results, Try.results110, go_sem, q1]) rfl ?_
            exact ⟨some ⟨g, 0, none⟩, N, vl, by rw [H1.out, H2.out, sqM_len], by rw [H2.out, sqM_len]; exact (HS6.out.setBelow (show w.heap.size + 1 < w.heap.size + 2 by omega) _).mono (by omega), b7⟩
          · rw [if_neg ht] at H2
            have HTC : Hid (topB xss = false ∨ topV xss < (x : Int)) := by
              by_cases h0 : xss.length = 0
              · left; simp [topB, h0]
              · right
                rw [topI, if_neg h0] at ht
                rw [topV]
                split
                · omega
                · omega
            have HPUT := Lib.hid (putIn_any g (w.heap.size + 2) N x vl f w5 hro5 hxN hz5 (by omega))
            rw [← hN]
            generalize topB xss = tb at HTC ⊢
            generalize topV xss = tv at HTC ⊢
            have HV5 := Lib.hid hV5
            clear ht hro5 hV5 hf hN
            cases tb
            · clear HTC
              go_wp2_with fail
              refine HPUT.out.mono ?_
              rintro e w6 ⟨g6, c6, ul, rfl, hro6, hb6⟩
              have b6 := b5.trans (hb6.mono (by omega : w.heap.size ≤ w.heap.size + 2))
              have hV6 : Var1 w6 (w.heap.size + 1) (.slice none 0 0) := ⟨⟨by have := hb6.size; omega, (hb6.cell (p := ⟨w.heap.size + 1, 0, none⟩) (show w.heap.size + 1 < w.heap.size + 2 by omega)).trans HV5.out.1.2⟩, (hb6.frozen (p := ⟨w.heap.size + 1, 0, none⟩) (show w.heap.size + 1 < w.heap.size + 2 by omega)).trans HV5.out.2⟩
              have hz : swF (fun a b => wdF (inR f x a) x b) (N+1) x x x N = 0 := by rw [swF, if_neg (Nat.lt_irrefl x)]; simp [wdF, inR]
              have hput := gr_put (f := f) hxN
              obtain ⟨F, hF⟩ : ∃ F, F = swF (fun a b => wdF (inR f x a) x b) (N+1) x x := ⟨_, rfl⟩
              rw [← hF] at hro6 hz hput
              obtain ⟨M, hM⟩ : ∃ M, M = N + 1 := ⟨_, rfl⟩
              have HMM := Lib.hid hM
              rw [← hM] at hro6 hput H2 ⊢
              have hxM : x < M := by omega
              have hNM : N < M := by omega
              have hcast : ((M : Int) - 1) = (N : Int) := by omega
              obtain ⟨g4, e4, hg4, hg5, hc4, hf4⟩ := hro6.outer (k := x) (by rw [sqM_len]; exact hxM)
              simp only [Option.some.injEq, Addr.mk.injEq, and_true] at e4
              subst e4
              obtain ⟨g7, c7, e7, hg7, hg8, hc7, hf7, hnew⟩ := hro6.num (i := x) (j := N) (by rw [sqM_len]; exact hxM) (by rw [sqM_rlen hxM]; exact hNM)
              rw [e7, sqM_rlen hxM] at hc4
              rw [sqM_at hxM hNM, hz] at hc7
              have hset := hnew 1
              rw [hput] at hset
              have b7 := b6.setCell (p := ⟨g7, N, none⟩) (show w.heap.size ≤ g7 by omega) (.int .i64 1)
              have hV7 := hV6.other (p := ⟨g7, N, none⟩) (.int .i64 1) (show w.heap.size + 1 ≠ g7 by omega)
              have HS7 := Lib.hid hset
              have HV7 := Lib.hid hV7
              have ⟨⟨zV7, cV7⟩, fV7⟩ := hV7
              clear hro6 hnew hset hV6 hV7 hb6 e7 hz hput hF hM HPUT
              go_wp2_with fail
              have hV8 := HV7.out.set (.slice (some ⟨g6, 0, none⟩) M c6)
              have b8 := b7.setCell (p := ⟨w.heap.size + 1, 0, none⟩) (by simp) (.slice (some ⟨g6, 0, none⟩) M c6)
              refine bodyPost_ret (v := .tuple #[.agg #[.slice (some ⟨g6, 0, none⟩) M c6], .bool true]) (by have ⟨⟨_, q1⟩, _⟩ := hV8; simp [results, Try.results110, go_sem, q1]) rfl ?_
              exact ⟨some ⟨g6, 0, none⟩, c6, ul, by rw [H1.out, H2.out, sqM_len], by rw [H2.out, sqM_len]; exact (HS7.out.setBelow (show w.heap.size + 1 < w.heap.size + 2 by omega) _).mono (by omega), b8⟩
            · have htv : tv < (x : Int) := by
                rcases HTC.out with h | h
                · cases h
                · exact h
              clear HTC
              go_wp2_with fail
              refine HPUT.out.mono ?_
              rintro e w6 ⟨g6, c6, ul, rfl, hro6, hb6⟩
              have b6 := b5.trans (hb6.mono (by omega : w.heap.size ≤ w.heap.size + 2))
              have hV6 : Var1 w6 (w.heap.size + 1) (.slice none 0 0) := ⟨⟨by have := hb6.size; omega, (hb6.cell (p := ⟨w.heap.size + 1, 0, none⟩) (show w.heap.size + 1 < w.heap.size + 2 by omega)).trans HV5.out.1.2⟩, (hb6.frozen (p := ⟨w.heap.size + 1, 0, none⟩) (show w.heap.size + 1 < w.heap.size + 2 by omega)).trans HV5.out.2⟩
              have hz : swF (fun a b => wdF (inR f x a) x b) (N+1) x x x N = 0 := by rw [swF, if_neg (Nat.lt_irrefl x)]; simp [wdF, inR]
              have hput := gr_put (f := f) hxN
              obtain ⟨F, hF⟩ : ∃ F, F = swF (fun a b => wdF (inR f x a) x b) (N+1) x x := ⟨_, rfl⟩
              rw [← hF] at hro6 hz hput
              obtain ⟨M, hM⟩ : ∃ M, M = N + 1 := ⟨_, rfl⟩
              have HMM := Lib.hid hM
              rw [← hM] at hro6 hput H2 ⊢
              have hxM : x < M := by omega
              have hNM : N < M := by omega
              have hcast : ((M : Int) - 1) = (N : Int) := by omega
              obtain ⟨g4, e4, hg4, hg5, hc4, hf4⟩ := hro6.outer (k := x) (by rw [sqM_len]; exact hxM)
              simp only [Option.some.injEq, Addr.mk.injEq, and_true] at e4
              subst e4
              obtain ⟨g7, c7, e7, hg7, hg8, hc7, hf7, hnew⟩ := hro6.num (i := x) (j := N) (by rw [sqM_len]; exact hxM) (by rw [sqM_rlen hxM]; exact hNM)
              rw [e7, sqM_rlen hxM] at hc4
              rw [sqM_at hxM hNM, hz] at hc7
              have hset := hnew 1
              rw [hput] at hset
              have b7 := b6.setCell (p := ⟨g7, N, none⟩) (show w.heap.size ≤ g7 by omega) (.int .i64 1)
              have hV7 := hV6.other (p := ⟨g7, N, none⟩) (.int .i64 1) (show w.heap.size + 1 ≠ g7 by omega)
              have HS7 := Lib.hid hset
              have HV7 := Lib.hid hV7
              have ⟨⟨zV7, cV7⟩, fV7⟩ := hV7
              clear hro6 hnew hset hV6 hV7 hb6 e7 hz hput hF hM HPUT
              go_wp2_with fail
              have hV8 := HV7.out.set (.slice (some ⟨g6, 0, none⟩) M c6)
              have b8 := b7.setCell (p := ⟨w.heap.size + 1, 0, none⟩) (by simp) (.slice (some ⟨g6, 0, none⟩) M c6)
              refine bodyPost_ret (v := .tuple #[.agg #[.slice (some ⟨g6, 0, none⟩) M c6], .bool true]) (by have ⟨⟨_, q1⟩, _⟩ := hV8; simp [results, Try.results110, go_sem, q1]) rfl ?_
              exact ⟨some ⟨g6, 0, none⟩, c6, ul, by rw [H1.out, H2.out, sqM_len], by rw [H2.out, sqM_len]; exact (HS7.out.setBelow (show w.heap.size + 1 < w.heap.size + 2 by omega) _).mono (by omega), b8⟩
        · have H1 : Hid (gwB xss p = false) := by rw [Hid, ← Bool.not_eq_true, gwB_iff]; omega
          have H2 : Hid (gwL xss p = []) := by rw [Hid, gwL, H1.out]; rfl
          have H3 : Hid (addB s 1 = false) := by rw [Hid, ← Bool.not_eq_true, addB_iff]; omega
          clear hsS
          go_wp2_with fail
          refine HADD.out.mono ?_
          rintro e w3 ⟨rfl, rfl⟩
          rw [addW, H3.out, if_neg (by simp)]
          go_wp2_with fail
          have hV3 := HV2.out.set (.slice none 0 0)
          have b3 := b2'.setCell (p := ⟨w.heap.size + 1, 0, none⟩) (by simp) (.slice none 0 0)
          refine bodyPost_ret (v := .tuple #[.agg #[.slice none 0 0], .bool false]) (by have ⟨⟨_, q1⟩, _⟩ := hV3; simp [results, Try.results110, go_sem, q1]) rfl ?_
          exact ⟨none, 0, [], by rw [H1.out, H2.out]; rfl, by rw [H2.out]; exact RowsP.nil _ _, b3⟩

theorem noClimb_any (w : World) :
    Calls Try.prog 165 #[] w fun e w' => e = .returned (.agg #[.int .i64 (-1), .int .i64 (-1)]) ∧ Below w.heap.size w w' := by
  go_enter Try.func165, Try.ntmps165
  go_wp2
  refine bodyPost_ret (v := .agg #[.int .i64 (-1), .int .i64 (-1)]) (by simp [results, Try.results165, go_sem]) rfl ⟨rfl, ?_⟩
  exact (by repeat (first | exact Below.refl _ _ | assumption | refine Below.alloc ?_ (by first | exact Nat.le_refl _ | (simp only [World.size_alloc, World.size_setCell, World.size_drew]; omega) | omega) _ | refine Below.setCell ?_ (by first | exact Nat.le_refl _ | (simp only [World.size_alloc, World.size_setCell, World.size_drew]; omega) | omega) _ | refine Below.drew ?_))
theorem greatest_any (l c : Int) (w : World) (h0 : -1 ≤ c) (h1 : c ≤ 1000) :
    Calls Try.prog 166 #[.agg #[.int .i64 l, .int .i64 c]] w fun e w' => e = .returned (.int .i64 (c + 1)) ∧ Below w.heap.size w w' := by
  go_enter Try.func166, Try.ntmps166
  go_wp2
  go_ret
  exact ⟨rfl, (by repeat (first | exact Below.refl _ _ | assumption | refine Below.alloc ?_ (by first | exact Nat.le_refl _ | (simp only [World.size_alloc, World.size_setCell, World.size_drew]; omega) | omega) _ | refine Below.setCell ?_ (by first | exact Nat.le_refl _ | (simp only [World.size_alloc, World.size_setCell, World.size_drew]; omega) | omega) _ | refine Below.drew ?_))⟩
theorem by_any (l c x : Int) (w : World) (h0 : -1 ≤ c) (h1 : c ≤ 1000) :
    Calls Try.prog 167 #[.agg #[.int .i64 l, .int .i64 c], .int .i64 x] w fun e w' => e = .returned (.agg #[.int .i64 x, .int .i64 (byA l c x)]) ∧ Below w.heap.size w w' := by
  by_cases h : l < x
  · have H : Hid (byA l c x = c + 1) := by simp [Hid, byA, h]
    go_enter Try.func167, Try.ntmps167
    go_wp2
    refine bodyPost_ret (v := .agg #[.int .i64 x, .int .i64 (c + 1)]) (by simp [results, Try.results167, go_sem]) rfl ⟨by rw [H.out], ?_⟩
    exact (by repeat (first | exact Below.refl _ _ | assumption | refine Below.alloc ?_ (by first | exact Nat.le_refl _ | (simp only [World.size_alloc, World.size_setCell, World.size_drew]; omega) | omega) _ | refine Below.setCell ?_ (by first | exact Nat.le_refl _ | (simp only [World.size_alloc, World.size_setCell, World.size_drew]; omega) | omega) _ | refine Below.drew ?_))
  · have H : Hid (byA l c x = c) := by simp [Hid, byA, h]
    go_enter Try.func167, Try.ntmps167
    go_wp2
    refine bodyPost_ret (v := .agg #[.int .i64 x, .int .i64 c]) (by simp [results, Try.results167, go_sem]) rfl ⟨by rw [H.out], ?_⟩
    exact (by repeat (first | exact Below.refl _ _ | assumption | refine Below.alloc ?_ (by first | exact Nat.le_refl _ | (simp only [World.size_alloc, World.size_setCell, World.size_drew]; omega) | omega) _ | refine Below.setCell ?_ (by first | exact Nat.le_refl _ | (simp only [World.size_alloc, World.size_setCell, World.size_drew]; omega) | omega) _ | refine Below.drew ?_))

theorem iIsAscent_any (a : Option Addr) (xs : List Int) (cap : Nat) (w : World) (hx : Rd w a xs) :
    Calls Try.prog 109 #[.slice a xs.length cap] w fun e w' => e = .returned (.bool (ascB xs)) ∧ Below w.heap.size w w' := by
  have hlen := hx.len
  by_cases hl : xs.length ≤ 12
  · go_enter Try.func109, Try.ntmps109
    go_wp2_with fail
    refine (noClimb_any _).mono ?_
    rintro e w1 ⟨rfl, hb1⟩
    have hz1 := hb1.size
    have V1 : Var2 (w1.alloc (.cells #[.int .i64 (-1), .int .i64 (-1)] 154)) w1.heap.size (.int .i64 (-1)) (.int .i64 (-1)) := Var2.new w1 _ _ _
    have b2 : Below w.heap.size w (w1.alloc (.cells #[.int .i64 (-1), .int .i64 (-1)] 154)) := hb1.alloc hz1 _
    go_wp2_with fail
    obtain ⟨g, hg⟩ : ∃ g, g = w1.heap.size := ⟨_, rfl⟩
    rw [← hg] at V1 hz1 ⊢
    clear hg
    go_loopw [12] (fun i wr => ∃ k : Nat, k ≤ xs.length ∧ i = .int .i64 k ∧ (∀ j, j < k → ascOk xs j = true) ∧ Var2 wr g (.int .i64 (clLast xs k)) (.int .i64 (clAsc xs k)) ∧ Below w.heap.size w wr) (fun i _ => xs.length - (intOf i).toNat)
    case atStart => exact ⟨0, Nat.zero_le _, rfl, fun j hj => by omega, V1, b2⟩
    case round =>
      clear V1 b2 hb1
      obtain ⟨k, hk, rfl, hall, hV, hb⟩ := hrel
      have HA := Lib.hid hall
      have ⟨⟨zV, cV, dV⟩, fV, gV⟩ := hV
      have ⟨ca0, ca1⟩ := clAsc_lt xs k
      clear hall
      by_cases hlt : k < xs.length
      · have hxr := hx.below hb
        obtain ⟨b, off, rfl, hbl, hc⟩ := hxr.cell k hlt
        by_cases h0 : nth xs k < 0
        · have HO : Hid (ascB xs = false) := ascB_no hlt (by rw [ascOk, inB_no]; omega)
          go_wp2_with fail
          go_ret
          exact ⟨ret_bool HO.out.symm, hb⟩
        · by_cases h1 : clAsc xs k + 1 < nth xs k
          · have HO : Hid (ascB xs = false) := ascB_no hlt (by rw [ascOk, inB_no, ← clAsc_bnd]; omega)
            go_wp2_with fail
            refine (greatest_any _ _ _ ca0 (by omega)).mono ?_
            rintro e w2 ⟨rfl, hb2⟩
            go_wp2_with fail
            go_ret
            exact ⟨ret_bool HO.out.symm, hb.trans (hb2.mono hb.size)⟩
          · have HM : Hid (ascOk xs k = true) := by rw [Hid, ascOk, inB_iff, ← clAsc_bnd]; omega
            have HS : Hid (byA (clLast xs k) (clAsc xs k) (nth xs k) = clAsc xs (k+1)) := clAsc_succ (by omega)
            have HL : Hid (clLast xs (k+1) = nth xs k) := clLast_succ xs k
            go_wp2_with fail
            refine (greatest_any _ _ _ ca0 (by omega)).mono ?_
            rintro e w2 ⟨rfl, hb2⟩
            have V2 := hV.below hb2
            have ⟨⟨zV2, cV2, dV2⟩, fV2, gV2⟩ := V2
            clear cV dV fV gV
            go_wp2_with fail
            refine (by_any _ _ _ _ ca0 (by omega)).mono ?_
            rintro e w3 ⟨rfl, hb3⟩
            have V3 := V2.below hb3
            have ⟨⟨zV3, cV3, dV3⟩, fV3, gV3⟩ := V3
            clear cV2 dV2 fV2 gV2
            rw [HS.out]
            have b3 : Below w.heap.size w w3 := (hb.trans (hb2.mono hb.size)).trans (hb3.mono (Nat.le_trans hb.size hb2.size))
            go_wp2_with fail
            go_roundw
            case rel =>
              refine ⟨k + 1, by omega, by go_num, fun j hj => ?_, by rw [HL.out]; exact V3.set _ _, (b3.setCell (p := ⟨g, 0, none⟩) hz1 _).setCell (p := ⟨g, 1, none⟩) hz1 _⟩
              by_cases e : j = k
              · rw [e]; exact HM.out
              · exact HA.out j (by omega)
            case measure => simp [intOf]; omega
      · obtain rfl : k = xs.length := by omega
        have HO : Hid (ascB xs = true) := ascB_iff.2 ⟨hl, HA.out⟩
        go_wp2_with fail
        go_ret
        exact ⟨ret_bool HO.out.symm, hb⟩
  · have HO := Lib.hid (ascB_long hl)
    go_enter Try.func109, Try.ntmps109
    go_wp2_with fail
    go_ret
    exact ⟨ret_bool HO.out.symm, Below.refl _ _⟩

set_option maxRecDepth 100000 in
set_option maxHeartbeats 1000000 in
theorem iMOA_any (a : Option Addr) (xs : List Int) (cap : Nat) (w : World) (hx : Rd w a xs) (_hcap : xs.length ≤ cap) :
    Calls Try.prog 47 #[.slice a xs.length cap] w fun e w' => ∃ a0 c0 vl, e = .returned (.tuple #[.agg #[.slice a0 (moaL xs).length c0], .bool (ascB xs)]) ∧ RowsP w' w.heap.size (.slice a0 (moaL xs).length c0) vl (moaL xs) ∧ Below w.heap.size w w' := by
  have hlen := hx.len
  have hV := Var1.new w (.slice none 0 0) 62
  have hb0 : Below w.heap.size w (w.alloc (.cells #[.slice none 0 0] 62)) := (by repeat (first | exact Below.refl _ _ | assumption | refine Below.alloc ?_ (by first | exact Nat.le_refl _ | (simp only [World.size_alloc, World.size_setCell, World.size_drew]; omega) | omega) _ | refine Below.setCell ?_ (by first | exact Nat.le_refl _ | (simp only [World.size_alloc, World.size_setCell, World.size_drew]; omega) | omega) _ | refine Below.drew ?_))
  cases hm : ascB xs
  · have HM := Lib.hid hm
    have H1 : Hid (moaL xs = []) := by simp [Hid, moaL, hm]
    clear hm
    go_enter Try.func47, Try.ntmps47
    go_wp2_with fail
    refine (iIsAscent_any _ _ _ _ (hx.below hb0)).mono ?_
    rintro e w1 ⟨rfl, hb⟩
    rw [HM.out]
    have b1 : Below w.heap.size w w1 := hb0.trans (hb.mono (by simp))
    have hV1 := hV.below hb
    have ⟨⟨zV, cV⟩, fV⟩ := hV1
    clear hb hV
    go_wp2_with fail
    have hV3 := hV1.set (.slice none 0 0)
    have b3 := b1.setCell (p := ⟨w.heap.size, 0, none⟩) (by simp) (.slice none 0 0)
    refine bodyPost_ret (v := .tuple #[.agg #[.slice none 0 0], .bool false]) (by have ⟨⟨_, q1⟩, _⟩ := hV3; simp [results, Try.results47, go_sem, q1]) rfl ?_
    exact ⟨none, 0, [], by rw [H1.out]; rfl, by rw [H1.out]; exact RowsP.nil _ _, b3⟩
  · have HM := Lib.hid hm
    have H1 : Hid (moaL xs = moK xs xs.length) := by simp [Hid, moaL, hm]
    have HX := Lib.hid hx
    have h12 := (ascB_iff.1 hm).1
    have HNX := Lib.hid (fun k (hk : k < xs.length) => moK_next hm hk)
    have HGB := Lib.hid (fun k (hk : k < xs.length) => moK_gw hm hk)
    have HSZ := Lib.hid (fun k (hk : k ≤ xs.length) => moK_size hm hk)
    have HNB := Lib.hid (fun k (hk : k < xs.length) => ascB_small hm hk)
    clear hm
    go_enter Try.func47, Try.ntmps47
    go_wp2_with fail
    refine (iIsAscent_any _ _ _ _ (hx.below hb0)).mono ?_
    rintro e w1 ⟨rfl, hb⟩
    rw [HM.out]
    have b1 : Below w.heap.size w w1 := hb0.trans (hb.mono (by simp))
    have hz1 : w.heap.size + 1 ≤ w1.heap.size := by have := hb.size; simpa using this
    have bb1 : Below w1.heap.size w1 (w1.alloc (.cells #[.slice none 0 0] 62)) := (by repeat (first | exact Below.refl _ _ | assumption | refine Below.alloc ?_ (by first | exact Nat.le_refl _ | (simp only [World.size_alloc, World.size_setCell, World.size_drew]; omega) | omega) _ | refine Below.setCell ?_ (by first | exact Nat.le_refl _ | (simp only [World.size_alloc, World.size_setCell, World.size_drew]; omega) | omega) _ | refine Below.drew ?_))
    have HV1 := Lib.hid ((hV.below hb).below bb1)
    have HO1 := Lib.hid (Var1.new w1 (.slice none 0 0) 62)
    have HB1 := Lib.hid (b1.trans (bb1.mono b1.size))
    obtain ⟨b4, hb4⟩ : ∃ b4, b4 = w1.heap.size := ⟨_, rfl⟩
    have HB4 := Lib.hid hb4
    have hz4 : w.heap.size + 1 ≤ b4 := by omega
    rw [← hb4] at HO1
    obtain ⟨N, hN⟩ : ∃ N, N = xs.length := ⟨_, rfl⟩
    have HN := Lib.hid hN
    rw [← hN] at hlen H1 h12 HNX HGB HSZ HNB ⊢
    clear hb hV bb1 hx b1 hb4 hN
    go_wp2_with fail
    go_loopw [13] (fun i wr => ∃ (k : Nat) (v : Value) (vl : List Value), k ≤ N ∧ i = .int .i64 k ∧ Var1 wr b4 v ∧ RowsP wr (b4 + 1) v vl (moK xs k) ∧ Var1 wr w.heap.size (.slice none 0 0) ∧ Below w.heap.size w wr) (fun i _ => N - (intOf i).toNat)
    case atStart => exact ⟨0, .slice none 0 0, [], Nat.zero_le _, rfl, HO1.out, RowsP.nil _ _, HV1.out, HB1.out⟩
    case round =>
      rw [← HB4.out]
      obtain ⟨k, v, vl, hk, rfl, hO, hro, hV, hb⟩ := hrel
      have hbs := hb.size
      have hO9 := hO.1.1
      obtain ⟨av, cv, ev⟩ := hro.o.form
      subst ev
      have ⟨⟨zO, cO⟩, fO⟩ := hO
      by_cases hlt : k < N
      · have k1 : (k : Int) < (N : Int) := by omega
        obtain ⟨b, off, rfl, hbl, hc⟩ := (HX.out.below hb).cell k (by rw [← HN.out]; exact hlt)
        have hnb := HNB.out k hlt
        have HG := Lib.hid (iGrow_any av (moK xs k) cv (nth xs k) wr hro.rdC (HSZ.out k hk) (by omega))
        rw [HGB.out k hlt, HNX.out k hlt] at HG
        have HV := Lib.hid hV
        have HO := Lib.hid hO
        obtain ⟨x, hxx⟩ : ∃ x, x = nth xs k := ⟨_, rfl⟩
        rw [← hxx] at HG hc hnb
        obtain ⟨L, hL⟩ : ∃ L, L = (moK xs (k+1)).length := ⟨_, rfl⟩
        have HL := Lib.hid hL
        rw [← hL] at HG
        generalize (moK xs k).length = L0 at HG cO ⊢
        clear hro hV hO hxx hL
        go_wp2_with fail
        refine HG.out.mono ?_
        rintro e w2 ⟨a2, c2, ul, rfl, hro2, hb2⟩
        have hO2 := HO.out.below hb2
        have hV2 := HV.out.below hb2
        have b2 := hb.trans (hb2.mono hbs)
        have ⟨⟨zO2, cO2⟩, fO2⟩ := hO2
        have hs2 := hb2.size
        have hO3 := hO2.set (.slice a2 L c2)
        have hV3 := hV2.other (p := ⟨b4, 0, none⟩) (.slice a2 L c2) (show w.heap.size ≠ b4 by omega)
        have hro3 := (hro2.setBelow (p := ⟨b4, 0, none⟩) hO9 (.slice a2 L c2)).mono (B' := b4 + 1) (by omega)
        have b3 := b2.setCell (p := ⟨b4, 0, none⟩) (show w.heap.size ≤ b4 by omega) (.slice a2 L c2)
        have H6 := Lib.hid (And.intro hO3 (And.intro hro3 (And.intro hV3 b3)))
        clear hro2 hO2 hV2 hO3 hV3 hro3 b3 hb2
        go_wp2_with fail
        go_roundw
        case rel => exact ⟨k + 1, _, _, by omega, by go_num, H6.out.1, H6.out.2.1, H6.out.2.2.1, H6.out.2.2.2⟩
        case measure => simp [intOf]; omega
      · obtain rfl : k = N := by omega
        have ⟨⟨zV, cV⟩, fV⟩ := hV
        obtain ⟨L, hL⟩ : ∃ L, L = (moK xs k).length := ⟨_, rfl⟩
        have HL := Lib.hid hL
        rw [← hL] at hro cO
        have HRO := Lib.hid hro
        have HV := Lib.hid hV
        clear hro hO hV hL
        go_wp2_with fail
        have hV2 := HV.out.set (.slice av L cv)
        have b2 := hb.setCell (p := ⟨w.heap.size, 0, none⟩) (by simp) (.slice av L cv)
        refine bodyPost_ret (v := .tuple #[.agg #[.slice av L cv], .bool true]) (by have ⟨⟨_, q1⟩, _⟩ := hV2; simp [results, Try.results47, go_sem, q1]) rfl ?_
        exact ⟨av, cv, vl, by rw [H1.out, HL.out], by rw [H1.out, ← HL.out]; exact (HRO.out.setBelow (show w.heap.size < b4 + 1 by omega) _).mono (by omega), b2⟩

theorem RowsP.cut {w : World} {B : Nat} {v : Value} {vl : List Value} {xss : List (List Int)} (h : RowsP w B v vl xss) {U : Nat} (hU : w.heap.size ≤ U) : (∀ c, v.ownBlock = some c → B ≤ c ∧ c < U) ∧ ∀ k, k < xss.length → ∀ c, (valAt vl k).ownBlock = some c → B ≤ c ∧ c < U :=
  ⟨fun c e => by have := h.o.lt c e; omega, fun k hk c e => by have := (h.o.row k hk).lt c e; omega⟩
theorem RowsP.touch {lo hi : Nat} {w w' : World} {B : Nat} {v : Value} {vl : List Value} {xss : List (List Int)} (h : RowsP w B v vl xss) (ht : TouchS lo hi w w') (h1 : ∀ c, v.ownBlock = some c → c < lo ∨ hi ≤ c) (h2 : ∀ k, k < xss.length → ∀ c, (valAt vl k).ownBlock = some c → c < lo ∨ hi ≤ c) : RowsP w' B v vl xss := by
  refine ⟨⟨⟨h.o.own.1, ?_⟩, fun k hk => (h.o.row k hk).touch ht (h2 k hk), h.o.apart⟩, h.pair⟩
  rcases h.o.own.2 with hn | ⟨g, cap, cur, e, hb', hg, rest⟩
  · exact .inl hn
  · refine .inr ⟨g, cap, cur, e, hb', ?_, rest⟩
    rw [ht.block g (Array.getElem?_eq_some_iff.1 hg).1 (h1 g (by rw [e]; rfl))]
    exact hg
theorem RowsP.kept {w w' : World} {B : Nat} {v : Value} {vl : List Value} {xss : List (List Int)} {row : Option Nat} (h : RowsP w B v vl xss) (hg : w.grownBy w' row) (h1 : ∀ c, v.ownBlock = some c → row ≠ some c) (h2 : ∀ k, k < xss.length → ∀ c, (valAt vl k).ownBlock = some c → row ≠ some c) : RowsP w' B v vl xss := by
  have e : ∀ u : Value, (∀ c, u.ownBlock = some c → row ≠ some c) → u.ownBlock = none ∨ u.ownBlock ≠ row := fun u hu => by
    cases hv : u.ownBlock with
    | none => exact .inl rfl
    | some c => exact .inr (fun e => hu c hv e.symm)
  exact ⟨⟨World.ownsRow.kept h.o.own hg (e v h1), fun k hk => (h.o.row k hk).kept hg (e _ (h2 k hk)), h.o.apart⟩, h.pair⟩
theorem OwnS.mono {w : World} {B B' g : Nat} {vl : List Value} {xss : List (List Int)} (h : OwnS w B g vl xss) (hB : B' ≤ B) : OwnS w B' g vl xss := ⟨Nat.le_trans hB h.lo, h.hi, h.max, h.cell, h.row, h.apart⟩
theorem TouchS.of_below {B lo hi : Nat} {w w1 w2 : World} (hb : Below w.heap.size w w1) (h : TouchS lo hi w1 w2) : TouchS lo hi w w2 :=
  ⟨h.os.trans hb.os, h.tape.trans hb.tape, h.output.trans hb.output, Nat.le_trans hb.size h.size, fun k hk hn => (h.block k (Nat.lt_of_lt_of_le hk hb.size) hn).trans (hb.block k hk)⟩

/-- one row more at the end -/
theorem RowsP.snoc {w w' : World} {B C : Nat} {v v' u : Value} {vl : List Value} {xss : List (List Int)} {r : List Int} (h : RowsP w B v vl xss) (hr : OwnI w C u r) (hBC : B ≤ C) (hvC : ∀ c, v.ownBlock = some c → c < C) (hrC : ∀ k, k < xss.length → ∀ c, (valAt vl k).ownBlock = some c → c < C)
    (ho : w'.ownsRow B 24 1 v' (xss.length + 1) (vl ++ [u])) (hg : w.grownBy w' v.ownBlock) (hv' : v'.ownBlock = v.ownBlock ∨ ∃ m, w.heap.size ≤ m ∧ v'.ownBlock = some m) : RowsP w' B v' (vl ++ [u]) (xss ++ [r]) := by
  have hl := h.o.vlen
  have e1 : ∀ k, k < xss.length → valAt (vl ++ [u]) k = valAt vl k := fun k hk => by rw [valAt, valAt, List.getD_eq_getElem?_getD, List.getD_eq_getElem?_getD, List.getElem?_append_left (by omega)]
  have e2 : valAt (vl ++ [u]) xss.length = u := by rw [← hl]; simp [valAt]
  have r1 : ∀ k, k < xss.length → rowL (xss ++ [r]) k = rowL xss k := fun k hk => by rw [rowL, rowL, List.getD_eq_getElem?_getD, List.getD_eq_getElem?_getD, List.getElem?_append_left hk]
  have r2 : rowL (xss ++ [r]) xss.length = r := by simp [rowL]
  have hur := hr.lt
  refine ⟨⟨by rw [List.length_append, List.length_singleton]; exact ho, fun k hk => ?_, fun k hk c hc hc2 => ?_⟩, fun j k hjk hk c hc => ?_⟩
  · rw [List.length_append, List.length_singleton] at hk
    by_cases e : k = xss.length
    · subst e
      rw [e2, r2]
      exact (hr.mono hBC).kept hg (own_ne (fun c h1 h3 => by have := hvC c h3; have := (hur c h1).1; omega))
    · rw [e1 k (by omega), r1 k (by omega)]
      exact (h.o.row k (by omega)).kept hg (own_ne (fun c h1 h3 => h.o.apart k (by omega) c h1 h3))
  · rw [List.length_append, List.length_singleton] at hk
    by_cases e : k = xss.length
    · subst e
      rw [e2] at hc
      have h1 := hur c hc
      rcases hv' with h3 | ⟨m, hm, h3⟩
      · rw [h3] at hc2; have := hvC c hc2; omega
      · rw [h3] at hc2; simp only [Option.some.injEq] at hc2; omega
    · rw [e1 k (by omega)] at hc
      have h1 := ((h.o.row k (by omega)).lt c hc).2
      rcases hv' with h3 | ⟨m, hm, h3⟩
      · rw [h3] at hc2; exact h.o.apart k (by omega) c hc hc2
      · rw [h3] at hc2; simp only [Option.some.injEq] at hc2; omega
  · rw [List.length_append, List.length_singleton] at hk
    rw [e1 j (by omega)] at hc
    by_cases e : k = xss.length
    · subst e
      rw [e2]
      intro h3
      have := hrC j (by omega) c hc
      have := (hur c h3).1
      omega
    · rw [e1 k (by omega)]
      exact h.pair j k hjk (by omega) c hc
/-- an append of one row at a step of a region that draws its order; the new row's value lies somewhere -/
theorem step_push_row {ops : Array Oper} {o : Oper} {a : Act} {K : Act → World → Prop} {Q : Exit → Act → World → Prop} {E : Prop} (hgd : o.guard = none) (s x : Operand)
    (ho : o.op = .call { callee := .builtin .append, args := #[s, x], argTypes := #[60, 60] }) {W : World} {B C g n m cp : Nat} {ar : Option Addr} {v : Value} {vl : List Value} {xss : List (List Int)} {r : List Int}
    (hs : a.eval s = v) (hx : a.eval x = .slice (some ⟨g, 0, none⟩) 1 1) (hro : RowsP W B v vl xss) (hn : xss.length = n) (hrow : OwnI W C (.slice ar m cp) r) (hz : W.cell? ⟨g, 0, none⟩ = some (.slice ar m cp)) (h63 : n ≤ 1048576) (hBC : B ≤ C) (hC : C ≤ W.heap.size)
    (hvC : ∀ c, v.ownBlock = some c → c < C) (hrC : ∀ k, k < xss.length → ∀ c, (valAt vl k).ownBlock = some c → c < C)
    (h : ∀ g' cap w', RowsP w' B (.slice (some ⟨g', 0, none⟩) (n + 1) cap) (vl ++ [.slice ar m cp]) (xss ++ [r]) → W.grownBy w' v.ownBlock → K (a.put o.dst (.slice (some ⟨g', 0, none⟩) (n + 1) cap)) w') :
    if Region.wanted o (yielded ops a.tmps) = true then Oper.wp Try.prog o a W K Q else E := by
  subst hn
  obtain ⟨j0, hj0, hy0, hy1, hy2⟩ := info_parts infoSlice
  refine step_append_lies W hgd s x 60 ho B 24 j0 (.slice none 0 0) 1 24 Try.underlying60 hj0 hy0 hy1 hy2 rfl (by decide) v xss.length vl hs hro.o.own ⟨g, 0, none⟩ 1 1 [.slice ar m cp] hx rfl ?_ (by intro u hu; simp at hu; subst hu; rfl) (by omega) (by unfold maxLen; omega) (by omega) (by omega) W.heap.size rfl ?_
  · intro j u hj
    obtain ⟨hlt, e⟩ := List.getElem?_eq_some_iff.1 hj
    have h0 : j = 0 := by simpa using hlt
    subst h0
    simp at e
    subst e
    rw [Addr.add_lit]; simpa using hz
  · intro g' cap w' ho2 hg hat _
    refine h g' cap w' (hro.snoc hrow hBC hvC hrC ho2 hg ?_) hg
    rcases hat with h1 | h1
    · exact .inl (by rw [h1]; rfl)
    · exact .inr ⟨g', by omega, rfl⟩

set_option maxRecDepth 100000 in
set_option maxHeartbeats 1000000 in
theorem maOwn_any (a : Option Addr) (xss : List (List Int)) (cap n m : Nat) (f : Nat → Nat → Int) (hf : xss = sqM f n m) (w : World) (hx : RdS w a xss) (hn : n ≤ 13) (hm : m ≤ 13) :
    Calls Try.prog 197 #[.agg #[.slice a n cap]] w fun e w' => ∃ a0 c0 vl, e = .returned (.agg #[.slice a0 n c0]) ∧ RowsP w' w.heap.size (.slice a0 n c0) vl (sqM f n m) ∧ Below w.heap.size w w' := by
  subst hf
  have hV0 := Var1.new (w.alloc (.cells #[.slice a n cap] 62)) (.slice none 0 0) 62
  have hO := Var1.new ((w.alloc (.cells #[.slice a n cap] 62)).alloc (.cells #[.slice none 0 0] 62)) (.slice none 0 0) 62
  have hb0 : Below w.heap.size w (((w.alloc (.cells #[.slice a n cap] 62)).alloc (.cells #[.slice none 0 0] 62)).alloc (.cells #[.slice none 0 0] 62)) := (by repeat (first | exact Below.refl _ _ | assumption | refine Below.alloc ?_ (by first | exact Nat.le_refl _ | (simp only [World.size_alloc, World.size_setCell, World.size_drew]; omega) | omega) _ | refine Below.setCell ?_ (by first | exact Nat.le_refl _ | (simp only [World.size_alloc, World.size_setCell, World.size_drew]; omega) | omega) _ | refine Below.drew ?_))
  have hV := hV0.alloc (.cells #[.slice none 0 0] 62)
  clear hV0
  simp only [World.size_alloc] at hV hO
  have HX := Lib.hid hx
  clear hx
  go_enter Try.func197, Try.ntmps197
  go_wp2_with fail
  go_loopw [10] (fun i wr => ∃ (k : Nat) (v : Value) (vl : List Value), k ≤ n ∧ i = .int .i64 k ∧ Var1 wr (w.heap.size + 2) v ∧ RowsP wr (w.heap.size + 3) v vl (sqM f k m) ∧ Var1 wr (w.heap.size + 1) (.slice none 0 0) ∧ Below w.heap.size w wr) (fun i _ => n - (intOf i).toNat)
  case atStart => exact ⟨0, .slice none 0 0, [], Nat.zero_le _, rfl, hO, RowsP.nil _ _, hV, hb0⟩
  case round =>
    clear hV hO hb0
    obtain ⟨k, v, vl, hk, rfl, hO, hro, hV, hb⟩ := hrel
    have hbs := hb.size
    have ⟨⟨zO, cO⟩, fO⟩ := hO
    obtain ⟨av, cv, ev⟩ := hro.o.form
    rw [sqM_len] at ev
    subst ev
    have HRO := Lib.hid hro
    have HO := Lib.hid hO
    have HV := Lib.hid hV
    by_cases hlt : k < n
    · obtain ⟨b0, off0, a', cap', rfl, hbl, hc, hr⟩ := (HX.out.below hb).row k (by rw [sqM_len]; exact hlt)
      rw [sqM_row hlt, fmap_len] at hc
      rw [sqM_row hlt] at hr
      have k1 : (k : Int) < (n : Int) := by omega
      have HN : Hid (sqM f (k+1) m = sqM f k m ++ [fmap (f k) m]) := sqM_succ _ _ _
      have HC : Hid (∀ W, Below wr.heap.size wr W → Calls Try.prog 146 #[.slice a' m cap'] W fun e w' => ∃ a2 c2, e = .returned (.slice a2 m c2) ∧ OwnI w' W.heap.size (.slice a2 m c2) (fmap (f k) m) ∧ Below W.heap.size W w') := fun W h => by
        have h1 := l1Own_any a' (fmap (f k) m) cap' W (hr.below h) (by rw [fmap_len]; omega)
        rw [fmap_len] at h1
        exact h1
      have hsz : w.heap.size + 3 ≤ wr.heap.size := by omega
      clear hro hO hV hr
      go_wp2_with fail
      go_region_law (first | (have _g := HR2; refine step_push_row (by rfl) _ _ (by rfl) (by rfl) (by rfl) (HR2.out.below ((Below.refl _ _).alloc (Nat.le_refl _) _) (Nat.le_refl _)) (sqM_len _ _ _) (ho2.alloc _) (by simp) (by omega) (by omega) (by simp; omega) (HRO.out.blk.1) (HRO.out.blk.2) ?_; intro g5 c5 w5 ho5 hg5; have hg6 := grown_alloc_set hg5; have hO5 := HO2.out.kept hg6 (ne_own (fun c e => by have := (HR2.out.o.lt c e).1; omega)); have ⟨⟨zO5, cO5⟩, fO5⟩ := hO5) | (go_simp; go_at_call 146; refine (HC.out _ (Joins.below_draws _ _ _)).mono ?_; rintro e w2 ⟨a2, c2, rfl, ho2', hb2⟩; have ht2 := (Joins.below_draws _ _ _).trans hb2; have hs2 := ht2.size; have ho2 := ho2'.mono (B' := wr.heap.size) (by simp); have HR2 := Lib.hid (HRO.out.below ht2 (Nat.le_refl _)); have HO2 := Lib.hid (HO.out.below ht2); have ⟨⟨zO2, cO2⟩, fO2⟩ := HO2.out; clear ho2' hb2))
      all_goals
        have hlo := HR2.out.o.lt
        have hV5 := (HV.out.below ht2).kept hg6 (ne_own (fun c e => by have := (hlo c e).1; omega))
        have b5 : Below w.heap.size w w5 := (hb.trans (ht2.mono hbs)).trans (below_of_grown hg6 (fun c e => by have := (hlo c e).1; omega) (by omega))
        have ho6 := ho5.setBelow (p := ⟨w.heap.size + 2, 0, none⟩) (show w.heap.size + 2 < w.heap.size + 3 by omega) (.slice (some ⟨g5, 0, none⟩) (k + 1) c5)
        have hO6 := hO5.set (.slice (some ⟨g5, 0, none⟩) (k + 1) c5)
        have hV6 := hV5.other (p := ⟨w.heap.size + 2, 0, none⟩) (.slice (some ⟨g5, 0, none⟩) (k + 1) c5) (show w.heap.size + 1 ≠ w.heap.size + 2 by omega)
        have b6 := b5.setCell (p := ⟨w.heap.size + 2, 0, none⟩) (show w.heap.size ≤ w.heap.size + 2 by omega) (.slice (some ⟨g5, 0, none⟩) (k + 1) c5)
        have H6 := Lib.hid (And.intro ho6 (And.intro hO6 (And.intro hV6 b6)))
        clear ho5 hg5 hg6 hlo hO5 hV5 ho6 hO6 hV6 HR2 ho2 HO2
        go_wp2_with fail
        go_roundw
        case rel => exact ⟨k + 1, _, _, by omega, by go_num, H6.out.2.1, by rw [HN.out]; exact H6.out.1, H6.out.2.2.1, H6.out.2.2.2⟩
        case measure => simp [intOf]; omega
    · obtain rfl : k = n := by omega
      have ⟨⟨zV, cV⟩, fV⟩ := hV
      clear hro hO hV
      go_wp2_with fail
      have hV2 := HV.out.set (.slice av k cv)
      have b2 := hb.setCell (p := ⟨w.heap.size + 1, 0, none⟩) (by simp) (.slice av k cv)
      refine bodyPost_ret (v := .agg #[.slice av k cv]) (by have ⟨⟨_, q1⟩, _⟩ := hV2; simp [results, Try.results197, go_sem, q1]) rfl ?_
      exact ⟨av, cv, vl, rfl, (HRO.out.setBelow (show w.heap.size + 1 < w.heap.size + 3 by omega) _).mono (by omega), b2⟩

set_option maxRecDepth 100000 in
theorem maTop_any (a : Option Addr) (xss : List (List Int)) (cap : Nat) (w : World) (hx : RdS w a xss) (hm : mxB xss = true) :
    Calls Try.prog 196 #[.agg #[.slice a xss.length cap]] w fun e w' => e = .returned (.int .i64 (topI xss)) ∧ Below w.heap.size w w' := by
  have HM := Lib.hid hm
  have h12 := mxB_small hm
  have HX := Lib.hid hx
  clear hm
  go_enter Try.func196, Try.ntmps196
  go_wp2_with fail
  go_loop [8] (fun i => ∃ k : Nat, k ≤ xss.length ∧ i = .int .i64 k ∧ Hid (∀ j, j < k → atM xss j (xss.length - 1) = 0)) (fun i => xss.length - (intOf i).toNat)
  case atStart => exact ⟨0, Nat.zero_le _, rfl, fun j hj => by omega⟩
  case round =>
    obtain ⟨k, hk, rfl, HZ⟩ := hrel
    by_cases hlt : k < xss.length
    · obtain ⟨b, off, a', cap', rfl, hbl, hc, hr⟩ := (HX.out.below (show Below w.heap.size w (w.alloc (.cells #[.slice a xss.length cap] 62)) from (by repeat (first | exact Below.refl _ _ | assumption | refine Below.alloc ?_ (by first | exact Nat.le_refl _ | (simp only [World.size_alloc, World.size_setCell, World.size_drew]; omega) | omega) _ | refine Below.setCell ?_ (by first | exact Nat.le_refl _ | (simp only [World.size_alloc, World.size_setCell, World.size_drew]; omega) | omega) _ | refine Below.drew ?_)))).row k hlt
      have hrl := mxB_len HM.out hlt
      obtain ⟨b2, off2, rfl, hbl2, hc2⟩ := hr.cell (xss.length - 1) (by omega)
      rw [hrl] at hc
      have k1 : (k : Int) < (xss.length : Int) := by omega
      have hcast : ((xss.length : Int) - 1) = ((xss.length - 1 : Nat) : Int) := by omega
      have hnn := (mxB_num HM.out (j := xss.length - 1) hlt (by omega)).1
      have HA : Hid (atM xss k (xss.length - 1) = nth (rowL xss k) (xss.length - 1)) := rfl
      rw [HA.out] at hnn
      by_cases hp : 0 < nth (rowL xss k) (xss.length - 1)
      · have H : Hid (topI xss = (k : Int)) := by
          rw [Hid, topI, if_neg (by omega), topN, firstNZ_at HZ.out (by rw [HA.out]; omega) hlt]
        clear hrl hr
        go_wp2_with fail
        go_ret
        exact ⟨ret_int H.out.symm, (by repeat (first | exact Below.refl _ _ | assumption | refine Below.alloc ?_ (by first | exact Nat.le_refl _ | (simp only [World.size_alloc, World.size_setCell, World.size_drew]; omega) | omega) _ | refine Below.setCell ?_ (by first | exact Nat.le_refl _ | (simp only [World.size_alloc, World.size_setCell, World.size_drew]; omega) | omega) _ | refine Below.drew ?_))⟩
      · have HN : Hid (atM xss k (xss.length - 1) = 0) := by rw [Hid, HA.out]; omega
        clear hrl hr
        go_wp2_with fail
        go_round
        case rel =>
          refine ⟨k + 1, by omega, by go_num, fun j hj => ?_⟩
          by_cases e : j = k
          · rw [e]; exact HN.out
          · exact HZ.out j (by omega)
        case measure => simp [intOf]; omega
    · obtain rfl : k = xss.length := by omega
      have H : Hid (topI xss = -1) := by
        by_cases e : xss.length = 0
        · rw [Hid, topI, if_pos e]
        · exfalso
          have h1 := topN_lt HM.out (by omega)
          rw [topN, firstNZ_all HZ.out] at h1
          omega
      clear hx
      go_wp2_with fail
      go_ret
      exact ⟨ret_int H.out.symm, (by repeat (first | exact Below.refl _ _ | assumption | refine Below.alloc ?_ (by first | exact Nat.le_refl _ | (simp only [World.size_alloc, World.size_setCell, World.size_drew]; omega) | omega) _ | refine Below.setCell ?_ (by first | exact Nat.le_refl _ | (simp only [World.size_alloc, World.size_setCell, World.size_drew]; omega) | omega) _ | refine Below.drew ?_))⟩

theorem OwnI.new (w : World) (xs : List Int) (h : xs.length ≤ 1048576) : OwnI (w.alloc (.cells (xs.map (Value.int .i64)).toArray 3)) w.heap.size (.slice (some ⟨w.heap.size, 0, none⟩) xs.length xs.length) xs :=
  ⟨by simp, .inr ⟨w.heap.size, xs.length, (xs.map (Value.int .i64)).toArray, rfl, Nat.le_refl _, heap_alloc_new w _, Nat.le_refl _, by unfold maxLen; omega, by simp, by simp [List.take_of_length_le]⟩⟩

theorem lit_own (w : World) (x : Int) (B : Nat) (hB : B ≤ w.heap.size) : (w.alloc (.cells #[.int .i64 x] 3)).ownsRow B 3 1 (.slice (some ⟨w.heap.size, 0, none⟩) 1 1) 1 [.int .i64 x] := by
  have h := (OwnI.new w [x] (by simp)).mono hB
  exact h

/-- an append of a whole slice of integers, a nil one too, at a step of a region that draws its order -/
theorem step_append_src {P : Program} {w : World} {ops : Array Oper} {o : Oper} {a : Act} {K : Act → World → Prop} {Q : Exit → Act → World → Prop} {E : Prop} (hgd : o.guard = none) (s x : Operand) (t : TypeId)
    (ho : o.op = .call { callee := .builtin .append, args := #[s, x], argTypes := #[t, t] })
    (base : Nat) (e : TypeId) (i : TypeInfo) (z : Value) (bytes : Nat) (ht : P.underlying t = some (.slice e)) (hi : P.info? e = some i) (hz : i.zero = some z)
    (hsize : i.size = 1) (hby : i.bytes = bytes) (hzs : z.cells.size = 1)
    (v : Value) (n : Nat) (xs : List Value) (hs : a.eval s = v) (hown : w.ownsRow base e 1 v n xs)
    (ad : Option Addr) (c : Nat) (R : List Int) (hx : a.eval x = .slice ad R.length c) (hrd : Rd w ad R)
    (h63 : n + R.length ≤ maxLen) (hbytes : (n + R.length) * bytes ≤ 140737488355328) (hbase : base ≤ w.heap.size)
    (h : ∀ v' w', w'.ownsRow base e 1 v' (n + R.length) (xs ++ R.map (Value.int .i64)) → w.grownBy w' v.ownBlock → K (a.put o.dst v') w') :
    if Region.wanted o (yielded ops a.tmps) = true then Oper.wp P o a w K Q else E := by
  have hw : Region.wanted o (yielded ops a.tmps) = true := by simp [Region.wanted, hgd]
  rw [if_pos hw]
  cases ad with
  | some ad => exact wp_append_own w s x t ho base e i z 1 bytes ht hi hz hsize hby hzs (by omega) v n xs hs hown ad R.length c (R.map (Value.int .i64)) hx (by rw [List.length_map, Nat.mul_one]) (rd_news hrd) (ints_one R) h63 hbytes hbase (fun v' w' h2 h3 _ => h v' w' h2 h3)
  | none =>
    have hR : R = [] := by
      rcases R with _ | ⟨y, ys⟩
      · rfl
      · obtain ⟨b, off, e, _⟩ := hrd.cell 0 (by simp)
        cases e
    subst hR
    have hrun : (Builtin.append_ #[t, t] o.type #[v, .slice none 0 c]).run P w = .ok v w := by
      rcases hown.2 with ⟨rfl, rfl⟩ | ⟨g, cap, cur, rfl, _, _, hnc, _⟩
      · simp [Builtin.append_, run_underlying ht, sizeOf, typeInfo, hi, Builtin.lenOf, Builtin.firstCells]
      · simp [Builtin.append_, run_underlying ht, sizeOf, typeInfo, hi, Builtin.lenOf, Builtin.firstCells, hnc, storeCells]
    have h2 := h v w (by simpa using hown) (World.grownBy.refl _ _)
    have hx' : a.eval x = .slice none 0 c := hx
    unfold Oper.wp
    simp [execOp, ho, resolve, invoke, builtin, hs, hx', hrun, Result.andThen]
    exact h2

theorem l1Own_take (a : Option Addr) (xs : List Int) (k cap : Nat) (w : World) (hx : Rd w a xs) (hk : k ≤ xs.length) (hn : k ≤ 1048576) :
    Calls Try.prog 146 #[.slice a k cap] w fun e w' => ∃ a' cap', e = .returned (.slice a' k cap') ∧ OwnI w' w.heap.size (.slice a' k cap') (xs.take k) ∧ Below w.heap.size w w' := by
  have hl : (xs.take k).length = k := by simp; omega
  have h := l1Own_any a (xs.take k) cap w (hx.take k) (by rw [hl]; exact hn)
  rw [hl] at h
  exact h

theorem Rd.drop {w : World} {ad : Addr} {xs : List Int} (h : Rd w (some ad) xs) (k : Nat) : Rd w (some (ad.add k)) (xs.drop k) :=
  ⟨Nat.le_trans (by rw [List.length_drop]; omega) h.len, fun j hj => by
    have hj' : k + j < xs.length := by rw [List.length_drop] at hj; omega
    obtain ⟨b, off, e, hl, hc⟩ := h.cell (k + j) hj'
    simp only [Option.some.injEq] at e
    subst e
    refine ⟨b, off + k, by rw [Addr.add_lit], hl, ?_⟩
    rw [Nat.add_assoc, hc]
    simp [nth, List.getD_eq_getElem?_getD, List.getElem?_drop]⟩

set_option maxRecDepth 100000 in
theorem maWide_any (a : Option Addr) (xs : List Int) (cap x : Nat) (w : World) (hr : Rd w a xs) (hcap : xs.length ≤ cap) (hp : 0 < xs.length) (hx : x ≤ xs.length) (hn : xs.length ≤ 12) :
    Calls Try.prog 198 #[.slice a xs.length cap, .int .i64 (x : Int)] w fun e w' => ∃ a' c', e = .returned (.slice a' (xs.length + 1) c') ∧ OwnI w' w.heap.size (.slice a' (xs.length + 1) c') (xs.take x ++ [0] ++ xs.drop x) ∧ Below w.heap.size w w' := by
  obtain ⟨i0, hi, hz0, hz1, hz2⟩ := info_parts infoInt
  have HX := Lib.hid hr
  obtain ⟨b, off, rfl, hbl, _⟩ := hr.cell 0 (by omega)
  have hxc : x ≤ cap := by omega
  have HL : Hid ((xs.take x ++ [0] ++ xs.drop x).length = xs.length + 1) := by rw [Hid, List.length_append, List.length_append, List.length_take, List.length_drop, List.length_singleton]; omega
  have HDR : Hid (∀ W A, Below w.heap.size w W → (if cap = x then some (⟨b, off, none⟩ : Addr) else some ⟨b, off + x, none⟩) = some A → Rd W (some A) (xs.drop x)) := fun W A hb hA => by
    have h1 := (HX.out.below hb).drop x
    by_cases h9 : cap = x
    · rw [if_pos h9] at hA
      have e : xs.drop x = [] := List.drop_eq_nil_of_le (by omega)
      rw [e]
      exact ⟨by simp, fun k hk => by simp at hk⟩
    · rw [if_neg h9] at hA
      simp only [Option.some.injEq] at hA
      subst hA
      rw [Addr.add_lit] at h1
      exact h1
  obtain ⟨A, hA⟩ : ∃ A : Addr, (if cap = x then some (⟨b, off, none⟩ : Addr) else some ⟨b, off + x, none⟩) = some A := by
    by_cases h9 : cap = x
    · exact ⟨_, if_pos h9⟩
    · exact ⟨_, if_neg h9⟩
  have HA := Lib.hid hA
  have htl : (xs.take x).length = x := by rw [List.length_take]; omega
  have HTL := Lib.hid htl
  have htl1 : (xs.take x ++ [0]).length = x + 1 := by rw [List.length_append, htl]; rfl
  have HTL1 := Lib.hid htl1
  have hwr : IntKind.i64.wrap (x : Int) = (x : Int) := by rw [i64_wrap, IntWalk.wrap64_in _ ⟨by omega, by omega⟩]
  clear htl htl1
  go_enter Try.func198, Try.ntmps198
  go_wp2_with fail
  go_region_law (first
    | (have _g := ho5; refine step_append_src (by rfl) _ _ _ (by rfl) w.heap.size 3 i0 (.int .i64 0) 8 Try.underlying24 hi hz0 hz1 hz2 rfl (.slice (some ⟨g5, 0, none⟩) (x + 1) c5) (x + 1) ((xs.take x ++ [0]).map (Value.int .i64)) (by rfl) (by first | exact ho5r | exact ownsRow_bel ho5r (Below.refl _ _).drew (Nat.le_refl _)) (some A) (cap - x) (xs.drop x) (by simp [Act.eval, Act.put]) (HDR.out _ A (by first | exact b5 | exact b5.drew) HA.out) (by rw [List.length_drop]; unfold maxLen; omega) (by rw [List.length_drop]; omega) (by have := b5.size; omega) ?_; intro v6 w6 ho6 hg6)
    | (have _g := NW; refine step_push (by rfl) _ _ (by rfl) (by rfl) (by rfl) (by first | exact ho3 | exact ho3.below (Joins.below_draws _ _ _) (Nat.le_refl _)) (by exact HTL.out) (by exact NW) (by omega) (by exact ht3.size) ?_; intro g5 c5 w5 ho5 hg5 hat5; have b5 : Below w.heap.size w w5 := ht3.trans (below_of_grown hg5 (fun c e => (ho3.lt c e).1) ht3.size); have ho5r : w5.ownsRow w.heap.size 3 1 (.slice (some ⟨g5, 0, none⟩) (x + 1) c5) (x + 1) ((xs.take x ++ [0]).map (Value.int .i64)) := (by have h := ho5; unfold OwnI at h; rw [HTL1.out] at h; exact h))
    | (have _g := ho3; refine step_push (by rfl) _ _ (by rfl) (by rfl) (by rfl) (by exact ho3.alloc _) (by exact HTL.out) (by simp; rfl) (by omega) (by have := ht3.size; simp; omega) ?_; intro g5 c5 w5 ho5 hg5 hat5; have b5 : Below w.heap.size w w5 := ht3.trans (below_of_grown (grown_alloc_set hg5) (fun c e => (ho3.lt c e).1) ht3.size); have ho5r : w5.ownsRow w.heap.size 3 1 (.slice (some ⟨g5, 0, none⟩) (x + 1) c5) (x + 1) ((xs.take x ++ [0]).map (Value.int .i64)) := (by have h := ho5; unfold OwnI at h; rw [HTL1.out] at h; exact h))
    | (go_simp; go_at_call 146; refine (l1Own_take _ xs x _ _ (by first | exact HX.out.below (Joins.below_draws _ _ _) | exact (HX.out.below (Joins.below_draws _ _ _)).alloc _) (by omega) (by omega)).mono ?_; rintro e w3 ⟨a3, c3, rfl, ho3', hb3⟩; have ht3 : Below w.heap.size w w3 := (by first | exact below_drew hb3 | exact below_after hb3); have ho3 := ho3'.mono (B' := w.heap.size) (by simp); (try have NW := news_after hb3); clear ho3' hb3))
  all_goals
    have hU := World.ownsRow.lt ho5r
    have b6 : Below w.heap.size w w6 := b5.trans (below_of_grown hg6 (fun c e => (hU c e).1) b5.size)
    have o6 : OwnI w6 w.heap.size v6 (xs.take x ++ [0] ++ xs.drop x) := by
      unfold OwnI
      rw [List.map_append, List.length_append, HTL1.out]
      exact ho6
    obtain ⟨a6, c6, e6⟩ := o6.form
    rw [HL.out] at e6
    subst e6
    clear ho6 hg6 hU ho5 ho5r
    go_wp2_with fail
    go_ret
    exact ⟨a6, c6, rfl, o6, b6⟩

set_option maxRecDepth 100000 in
set_option maxHeartbeats 2000000 in
theorem maGrow_any (a : Option Addr) (xss : List (List Int)) (cap x : Nat) (w : World) (hx : RdC w a xss) (hm : mxB xss = true) (hxl : x ≤ xss.length) :
    Calls Try.prog 171 #[.agg #[.slice a xss.length cap], .int .i64 (x : Int)] w fun e w' => ∃ a0 c0 vl, e = .returned (.agg #[.slice a0 (grL xss x).length c0]) ∧ RowsP w' w.heap.size (.slice a0 (grL xss x).length c0) vl (grL xss x) ∧ Below w.heap.size w w' := by
  obtain ⟨i0, hi, hz0, hz1, hz2⟩ := info_parts infoInt
  have hlen := hx.rd.len
  have hV := Var1.new (w.alloc (.cells #[.slice a xss.length cap] 62)) (.slice none 0 0) 62
  have hb0 : Below w.heap.size w ((w.alloc (.cells #[.slice a xss.length cap] 62)).alloc (.cells #[.slice none 0 0] 62)) := (by repeat (first | exact Below.refl _ _ | assumption | refine Below.alloc ?_ (by first | exact Nat.le_refl _ | (simp only [World.size_alloc, World.size_setCell, World.size_drew]; omega) | omega) _ | refine Below.setCell ?_ (by first | exact Nat.le_refl _ | (simp only [World.size_alloc, World.size_setCell, World.size_drew]; omega) | omega) _ | refine Below.drew ?_))
  have hA : Box1 ((w.alloc (.cells #[.slice a xss.length cap] 62)).alloc (.cells #[.slice none 0 0] 62)) w.heap.size (.slice a xss.length cap) := (Box1.new w _ _).below ((Below.refl _ _).alloc (Nat.le_refl _) _)
  rw [World.size_alloc] at hV
  have h12 := mxB_small hm
  have HE := Lib.hid (mx_eta hm)
  have HNUMB := Lib.hid (fun i j (hi : i < xss.length) (hj : j < xss.length) => mxB_num hm hi (j := j) hj)
  have HTL := Lib.hid (fun (h : 0 < xss.length) => topN_lt hm h)
  have HG := Lib.hid (grL_eq hm hxl)
  have HMT := Lib.hid (fun W (h : RdS W a xss) => maTop_any a xss cap W h hm)
  have HL : Hid (∀ k, k < xss.length → (rowL xss k).length = xss.length) := fun k hk => mxB_len hm hk
  have HOWN := Lib.hid (fun W (h : RdS W a xss) => maOwn_any a xss cap xss.length xss.length (atM xss) HE.out W h (by omega) (by omega))
  have hrowE : ∀ k, k < xss.length → rowL xss k = fmap (atM xss k) xss.length := fun k hk => by
    have h := list_fmap (rowL xss k)
    rw [mxB_len hm hk] at h
    exact h
  have HRE := Lib.hid hrowE
  obtain ⟨f, hf⟩ : ∃ f, f = atM xss := ⟨_, rfl⟩
  rw [← hf] at HNUMB HG HE HOWN HRE
  have HX := Lib.hid hx
  obtain ⟨N, hN⟩ : ∃ N, N = xss.length := ⟨_, rfl⟩
  have HN := Lib.hid hN
  have HTP : Hid (topI xss = if N = 0 then -1 else ((topN xss : Nat) : Int)) := by rw [Hid, topI, hN]
  rw [← hN] at hlen h12 HNUMB HTL HE HOWN HRE HG HL HMT hV hb0 hA hxl ⊢
  clear hm hx hf hrowE hN
  obtain ⟨M, hM⟩ : ∃ M, M = N + 1 := ⟨_, rfl⟩
  have HMM := Lib.hid hM
  go_enter Try.func171, Try.ntmps171
  go_wp2_with fail
  refine (HMT.out _ (HX.out.rd.below hb0)).mono ?_
  rintro e w1 ⟨rfl, hb⟩
  have b1 : Below w.heap.size w w1 := hb0.trans (hb.mono (by simp; omega))
  have hV1 := hV.below hb
  have hA1 := hA.below hb
  have ⟨zA1, cA1⟩ := hA1
  have hz1w : w.heap.size + 2 ≤ w1.heap.size := by have := hb.size; simp at this; omega
  have HV1 := Lib.hid hV1
  clear hb hV hA hb0 hV1 HMT
  by_cases ht : (x : Int) ≤ topI xss
  · have HSH : Hid (grL xss x = sqM (grAI f N x) N N) := by rw [Hid, HG.out, if_pos ht]
    rw [HTP.out] at ht ⊢
    have hpos : 0 < N := by
      apply Classical.byContradiction
      intro h
      rw [if_pos (by omega)] at ht
      omega
    rw [if_neg (by omega)] at ht ⊢
    have htl := HTL.out hpos
    have hxN1 : x < N := by omega
    obtain ⟨T, hT⟩ : ∃ T, T = topN xss := ⟨_, rfl⟩
    rw [← hT] at ht htl ⊢
    have hN1 : N - 1 < N := by omega
    have hcast : ((N : Int) - 1) = ((N - 1 : Nat) : Int) := by omega
    clear hT hM
    go_wp2_with fail
    refine (HOWN.out _ (HX.out.rd.below b1)).mono ?_
    rintro e w2 ⟨a0, c0, vl, rfl, hro, hb2⟩
    have b2 := b1.trans (hb2.mono b1.size)
    have hV2 := (HV1.out.below hb2).alloc (.cells #[.slice a0 N c0] 62)
    have hB2 := Box1.new w2 (.slice a0 N c0) 62
    have b2' := b2.alloc b2.size (.cells #[.slice a0 N c0] 62)
    have hro2 := (hro.below ((Below.refl _ _).alloc (Nat.le_refl _) (.cells #[.slice a0 N c0] 62)) (Nat.le_refl _)).mono (B' := w.heap.size + 2) (by omega)
    have hblk := hro.blk
    obtain ⟨g4, e4, hg4, hg5, hc4, hf4⟩ := hro2.outer (k := x) (by rw [sqM_len]; exact hxN1)
    subst e4
    obtain ⟨g6, c6, e6, hg6, hg7, hc6, hf6, hnew⟩ := hro2.num (i := x) (j := N - 1) (by rw [sqM_len]; exact hxN1) (by rw [sqM_rlen hxN1]; omega)
    have hne6 : g6 ≠ w2.heap.size := fun h => by
      have := hblk.2 x (by rw [sqM_len]; exact hxN1) g6 (by rw [e6]; rfl)
      omega
    rw [e6, sqM_rlen hxN1] at hc4
    rw [sqM_at hxN1 hN1] at hc6
    have hset := hnew (f x (N - 1) + 1)
    rw [setM_sq hxN1 hN1] at hset
    have hset2 : RowsP ((w2.alloc (.cells #[.slice (some ⟨g4, 0, none⟩) N c0] 62)).setCell ⟨g6, N - 1, none⟩ (.int .i64 (f x (N - 1) + 1))) (w.heap.size + 2) (.slice (some ⟨g4, 0, none⟩) N c0) vl (sqM (grAI f N x) N N) := hset
    have b4 := b2'.setCell (p := ⟨g6, N - 1, none⟩) (show w.heap.size ≤ g6 by omega) (.int .i64 (f x (N - 1) + 1))
    have hV4 := hV2.other (p := ⟨g6, N - 1, none⟩) (.int .i64 (f x (N - 1) + 1)) (show w.heap.size + 1 ≠ g6 by omega)
    have hB4 : Box1 ((w2.alloc (.cells #[.slice (some ⟨g4, 0, none⟩) N c0] 62)).setCell ⟨g6, N - 1, none⟩ (.int .i64 (f x (N - 1) + 1))) w2.heap.size (.slice (some ⟨g4, 0, none⟩) N c0) := hB2.kept (grown_set _ _ _) (by simp; omega)
    have ⟨z0, z9⟩ := HNUMB.out x (N - 1) hxN1 hN1
    obtain ⟨Z, hZ⟩ : ∃ Z, Z = f x (N - 1) := ⟨_, rfl⟩
    rw [← hZ] at hc6 hset2 b4 hV4 hB4 z0 z9
    have HS4 := Lib.hid hset2
    have HV4 := Lib.hid hV4
    have ⟨⟨zV4, cV4⟩, fV4⟩ := hV4
    have ⟨zB2, cB2⟩ := hB2
    have ⟨zB4, cB4⟩ := hB4
    clear hro hro2 hnew hset hset2 hV2 hV4 hb2 e6 hZ hblk hB2 hB4 cA1
    go_wp2_with fail
    have hV6 := HV4.out.set (.slice (some ⟨g4, 0, none⟩) N c0)
    have b6 := b4.setCell (p := ⟨w.heap.size + 1, 0, none⟩) (by simp) (.slice (some ⟨g4, 0, none⟩) N c0)
    refine bodyPost_ret (v := .agg #[.slice (some ⟨g4, 0, none⟩) N c0]) (by have ⟨⟨_, q1⟩, _⟩ := hV6; simp [results, Try.results171, go_sem, q1]) rfl ?_
    exact ⟨some ⟨g4, 0, none⟩, c0, vl, by rw [HSH.out, sqM_len], by rw [HSH.out, sqM_len]; exact (HS4.out.setBelow (show w.heap.size + 1 < w.heap.size + 2 by omega) _).mono (by omega), b6⟩
  · have HSH : Hid (grL xss x = sqM (grBI f N x) M M) := by rw [Hid, HG.out, if_neg ht, hM]
    have hO1 := Var1.new w1 (.slice none 0 0) 62
    have bb1 : Below w1.heap.size w1 (w1.alloc (.cells #[.slice none 0 0] 62)) := (by repeat (first | exact Below.refl _ _ | assumption | refine Below.alloc ?_ (by first | exact Nat.le_refl _ | (simp only [World.size_alloc, World.size_setCell, World.size_drew]; omega) | omega) _ | refine Below.setCell ?_ (by first | exact Nat.le_refl _ | (simp only [World.size_alloc, World.size_setCell, World.size_drew]; omega) | omega) _ | refine Below.drew ?_))
    have HV2 := Lib.hid (HV1.out.below bb1)
    have HO1 := Lib.hid hO1
    have HB1 := Lib.hid (b1.trans (bb1.mono b1.size))
    have hA2 := hA1.below bb1
    have HA2 := Lib.hid hA2
    have ⟨zA2, cA2⟩ := hA2
    obtain ⟨b4, hb4⟩ : ∃ b4, b4 = w1.heap.size := ⟨_, rfl⟩
    have HB4 := Lib.hid hb4
    have hz4 : w.heap.size + 2 ≤ b4 := by omega
    rw [← hb4] at HO1
    generalize topI xss = tI at ht ⊢
    have hcM : ((N : Int) + 1) = (M : Int) := by omega
    have hNM : N < M := by omega
    have hM13 : M ≤ 13 := by omega
    clear hb4 hO1 bb1 hA2 HOWN hM b1
    go_wp2_with fail
    go_loopw [8] (fun i wr => ∃ (k : Nat) (v : Value) (vl : List Value), k ≤ M ∧ i = .int .i64 k ∧ Var1 wr b4 v ∧ RowsP wr (b4 + 1) v vl (sqM (grBI f N x) k M) ∧ Var1 wr (w.heap.size + 1) (.slice none 0 0) ∧ Below w.heap.size w wr ∧ Box1 wr w.heap.size (.slice a N cap)) (fun i _ => M - (intOf i).toNat)
    case atStart => exact ⟨0, .slice none 0 0, [], Nat.zero_le _, rfl, HO1.out, RowsP.nil _ _, HV2.out, HB1.out, HA2.out⟩
    case round =>
      rw [← HB4.out]
      obtain ⟨k, v, vl, hk, rfl, hO, hro, hV, hb, hA⟩ := hrel
      have HA := Lib.hid hA
      have ⟨zA, cA⟩ := hA
      clear hA
      have hbs := hb.size
      have hO9 := hO.1.1
      have HRO := Lib.hid hro
      obtain ⟨av, cv, ev⟩ := hro.o.form
      rw [sqM_len] at ev
      subst ev
      have HO := Lib.hid hO
      have HV := Lib.hid hV
      by_cases hlt : k < M
      · skip
        have k0 : (k : Int) ≤ (N : Int) := by omega
        have HN1 : Hid (sqM (grBI f N x) (k+1) M = sqM (grBI f N x) k M ++ [fmap (grBI f N x k) M]) := sqM_succ _ _ _
        have h63 : (sqM (grBI f N x) k M).length ≤ 1048576 := by rw [sqM_len]; omega
        obtain ⟨W1, hW1⟩ : ∃ x : World, x = wr := ⟨_, rfl⟩
        subst hW1
        have ⟨⟨zO, cO⟩, fO⟩ := hO
        by_cases hkx : k = x
        · have hkk : ((k : Int) == (x : Int)) = true := by simp [hkx]
          have HRW : Hid ((List.replicate M (0:Int)).set N 1 = fmap (grBI f N x k) M) := by rw [Hid, hkx, HMM.out]; exact gr_mid
          clear hkx hro hO hV
          go_wp2_with (at_make; refine wpList_make_full _ rfl (.tmp 69) (.tmp 69) 24 rfl W1.heap.size 3 i0 (.int .i64 0) 1 Try.underlying24 hi hz0 hz1 .i64 .i64 _ _ M rfl rfl rfl rfl (by rw [hz2]; omega) (by unfold maxLen; omega) (Nat.le_refl _) ?_)
          intro w3 hown hgrow
          have hb3 : Below W1.heap.size W1 w3 := (Below.refl _ _).grown hgrow (Nat.le_refl _) (fun k h => by cases h)
          have hown1 := made_row (fun _ => 0) (by rw [Nat.mul_one]; exact hown)
          rw [show rowF (fun _ => 0) M 0 = List.replicate M (0:Int) by simp [rowF, fmap]] at hown1
          have hlr : (List.replicate M (0:Int)).length = M := List.length_replicate
          have ⟨cN, fN⟩ := hown1.at' hlr.symm (i := N) (by omega)
          have hput := (hown1.put hlr.symm N 1).1
          rw [HRW.out] at hput
          have hbU := hb3.setCell (p := ⟨W1.heap.size, N, none⟩) (Nat.le_refl _) (.int .i64 1)
          have HU3 := Lib.hid hput
          have HRO3 := Lib.hid (HRO.out.below hbU (Nat.le_refl _))
          have hO3 := HO.out.below hbU
          have ⟨⟨zO2, cO2⟩, fO2⟩ := HO.out.below hb3
          have ⟨⟨zO3, cO3⟩, fO3⟩ := hO3
          have HO3 := Lib.hid hO3
          have HV3 := Lib.hid (HV.out.below hbU)
          have HA3 := Lib.hid (HA.out.below hbU)
          have HB3 := Lib.hid (hb.trans (hbU.mono hbs))
          clear hown hgrow hown1 hlr hput hO3
          go_wp2_with (at_builtin; refine push_row (v := .slice av k cv) (C := W1.heap.size) rfl _ _ rfl rfl HRO3.out HU3.out (by first | rfl | (simp only [World.size_setCell]; rfl) | simp [Act.eval]) h63 (by omega) (by have := hbU.size; omega) (fun c e => (HRO.out.blk.1 c e)) (fun i hi c e => HRO.out.blk.2 i hi c e) ?_)
          intro v5 w5 ho5 hg5
          have hlo := HRO3.out.o.lt
          have hO5 := HO3.out.kept hg5 (ne_own (fun c e => by have := (hlo c e).1; omega))
          have hV5 := HV3.out.kept hg5 (ne_own (fun c e => by have := (hlo c e).1; omega))
          have b5 : Below w.heap.size w w5 := HB3.out.trans (below_of_grown hg5 (fun c e => by have := (hlo c e).1; omega) (by have := HB3.out.size; omega))
          obtain ⟨a5, c5, e5⟩ := ho5.o.form
          subst e5
          have ⟨⟨zO5, cO5⟩, fO5⟩ := hO5
          obtain ⟨L5, hL5⟩ : ∃ L5, L5 = (sqM (grBI f N x) k M ++ [fmap (grBI f N x k) M]).length := ⟨_, rfl⟩
          rw [← hL5] at ho5 ⊢
          have ho6 := ho5.setBelow (p := ⟨b4, 0, none⟩) (show b4 < b4 + 1 by omega) (.slice a5 L5 c5)
          have hO6 := hO5.set (.slice a5 L5 c5)
          have HA6 := Lib.hid ((HA3.out.kept hg5 (ne_own (fun c e => by have := (hlo c e).1; omega))).kept (grown_set w5 ⟨b4, 0, none⟩ (.slice a5 L5 c5)) (by simp; omega))
          have hV6 := hV5.other (p := ⟨b4, 0, none⟩) (.slice a5 L5 c5) (show w.heap.size + 1 ≠ b4 by omega)
          have b6 := b5.setCell (p := ⟨b4, 0, none⟩) (show w.heap.size ≤ b4 by omega) (.slice a5 L5 c5)
          have H6 := Lib.hid (And.intro ho6 (And.intro hO6 (And.intro hV6 b6)))
          clear ho5 hg5 hlo hO5 hV5 ho6 hO6 hV6 hL5
          go_wp2_with fail
          go_roundw
          case rel => exact ⟨k + 1, _, _, by omega, by go_num, H6.out.2.1, by rw [HN1.out]; exact H6.out.1, H6.out.2.2.1, H6.out.2.2.2, HA6.out⟩
          case measure => simp [intOf]; omega
        · have hkk : ((k : Int) == (x : Int)) = false := by simp; omega
          by_cases hkx2 : x < k
          · have g1 : (x : Int) < (k : Int) := by omega
            have hxN : x ≤ N := by omega
            obtain ⟨j, hj⟩ : ∃ j, j = k - 1 := ⟨_, rfl⟩
            have hcj : ((k : Int) - 1) = (j : Int) := by omega
            have hcj2 : IntKind.i64.wrap (j : Int) = (j : Int) := by rw [i64_wrap, IntWalk.wrap64_in _ ⟨by omega, by omega⟩]
            have hjN : j < N := by omega
            obtain ⟨b5, off5, a5, cap5, rfl, hbl5, hc5, hr5, hle5⟩ := (HX.out.below hb).row (k := j) (by rw [← HN.out]; exact hjN)
            rw [HL.out j hjN] at hc5 hle5
            rw [HRE.out j hjN] at hr5
            have HNR : Hid (∀ W, Below W1.heap.size W1 W → Calls Try.prog 198 #[.slice a5 N cap5, .int .i64 (x : Int)] W fun e w' => ∃ a' c', e = .returned (.slice a' M c') ∧ OwnI w' W.heap.size (.slice a' M c') (fmap (grBI f N x k) M) ∧ Below W.heap.size W w') := fun W h => by
              have h1 := maWide_any a5 (fmap (f j) N) cap5 x W (hr5.below h) (by rw [fmap_len]; exact hle5) (by rw [fmap_len]; omega) (by rw [fmap_len]; exact hxN) (by rw [fmap_len]; omega)
              rw [fmap_len, fmap_ins hxN, hj, gr_hi (d := N) hkx2, ← HMM.out] at h1
              exact h1
            clear hj hkx2 hkx hro hO hV hr5 hle5
            go_wp2_with fail
            go_region_law (first | (have _g := HR2; refine step_push_row (by rfl) _ _ (by rfl) (by rfl) (by rfl) (HR2.out.below ((Below.refl _ _).alloc (Nat.le_refl _) _) (Nat.le_refl _)) (sqM_len _ _ _) (ho3.alloc _) (by simp) (by omega) (by omega) (by simp; omega) (HRO.out.blk.1) (HRO.out.blk.2) ?_; intro g5 c5 w5 ho5 hg5; have hg6 := grown_alloc_set hg5; have hO5 := HO3.out.kept hg6 (ne_own (fun c e => by have := (HR2.out.o.lt c e).1; omega)); have ⟨⟨zO5, cO5⟩, fO5⟩ := hO5) | (go_simp; go_at_call 198; refine (HNR.out _ (Joins.below_draws _ _ _)).mono ?_; rintro e w3 ⟨a3, c3, rfl, ho3', hb3⟩; have ht3 := (Joins.below_draws _ _ _).trans hb3; have hs3 := ht3.size; have ho3 := ho3'.mono (B' := W1.heap.size) (by simp); have HR2 := Lib.hid (HRO.out.below ht3 (Nat.le_refl _)); have HO3 := Lib.hid (HO.out.below ht3); have ⟨⟨zO3, cO3⟩, fO3⟩ := HO3.out; have HA3 := Lib.hid (HA.out.below ht3); clear ho3' hb3))
            all_goals
              have hlo := HR2.out.o.lt
              have hV5 := (HV.out.below ht3).kept hg6 (ne_own (fun c e => by have := (hlo c e).1; omega))
              have b5 : Below w.heap.size w w5 := (hb.trans (ht3.mono hbs)).trans (below_of_grown hg6 (fun c e => by have := (hlo c e).1; omega) (by omega))
              have ho6 := ho5.setBelow (p := ⟨b4, 0, none⟩) (show b4 < b4 + 1 by omega) (.slice (some ⟨g5, 0, none⟩) (k + 1) c5)
              have hO6 := hO5.set (.slice (some ⟨g5, 0, none⟩) (k + 1) c5)
              have HA6 := Lib.hid ((HA3.out.kept hg6 (ne_own (fun c e => by have := (hlo c e).1; omega))).kept (grown_set w5 ⟨b4, 0, none⟩ (.slice (some ⟨g5, 0, none⟩) (k + 1) c5)) (by simp; omega))
              have hV6 := hV5.other (p := ⟨b4, 0, none⟩) (.slice (some ⟨g5, 0, none⟩) (k + 1) c5) (show w.heap.size + 1 ≠ b4 by omega)
              have b6 := b5.setCell (p := ⟨b4, 0, none⟩) (show w.heap.size ≤ b4 by omega) (.slice (some ⟨g5, 0, none⟩) (k + 1) c5)
              have H6 := Lib.hid (And.intro ho6 (And.intro hO6 (And.intro hV6 b6)))
              clear ho5 hg5 hg6 hlo hO5 hV5 ho6 hO6 hV6 HR2 ho3 HO3
              go_wp2_with fail
              go_roundw
              case rel => exact ⟨k + 1, _, _, by omega, by go_num, H6.out.2.1, by rw [HN1.out]; exact H6.out.1, H6.out.2.2.1, H6.out.2.2.2, HA6.out⟩
              case measure => simp [intOf]; omega
          · have g1 : ¬ (x : Int) < (k : Int) := by omega
            have hkN : k < N := by omega
            have hkx3 : k < x := by omega
            have hxN : x ≤ N := by omega
            obtain ⟨b5, off5, a5, cap5, rfl, hbl5, hc5, hr5, hle5⟩ := (HX.out.below hb).row (k := k) (by rw [← HN.out]; exact hkN)
            rw [HL.out k hkN] at hc5 hle5
            rw [HRE.out k hkN] at hr5
            have HNR : Hid (Calls Try.prog 198 #[.slice a5 N cap5, .int .i64 (x : Int)] W1 fun e w' => ∃ a' c', e = .returned (.slice a' M c') ∧ OwnI w' W1.heap.size (.slice a' M c') (fmap (wdF (f k) x) M) ∧ Below W1.heap.size W1 w') := by
              have h1 := maWide_any a5 (fmap (f k) N) cap5 x W1 hr5 (by rw [fmap_len]; exact hle5) (by rw [fmap_len]; omega) (by rw [fmap_len]; exact hxN) (by rw [fmap_len]; omega)
              rw [fmap_len, fmap_ins hxN, ← HMM.out] at h1
              exact h1
            clear hkx hkx2 hro hO hV hr5 hle5
            go_wp2_with fail
            refine HNR.out.mono ?_
            rintro e w2 ⟨a2, c2, rfl, ho2, hb2⟩
            have hs2 := hb2.size
            have hpt : ∃ g2, a2 = some ⟨g2, 0, none⟩ := by
              rcases ho2.2 with ⟨e9, h0⟩ | ⟨g9, cap9, cur9, e9, _⟩
              · rw [fmap_len] at h0; omega
              · simp only [Value.slice.injEq] at e9; exact ⟨g9, e9.1⟩
            obtain ⟨g2, rfl⟩ := hpt
            have hgl := ho2.lt g2 rfl
            have ⟨⟨zO2, cO2⟩, fO2⟩ := HO.out.below hb2
            have hwl : (fmap (wdF (f k) x) M).length = M := fmap_len _ _
            by_cases hxN2 : x < N
            · have t2 : (x : Int) < (N : Int) := by omega
              have ⟨cx, fx⟩ := ho2.at' hwl.symm (i := x) (by omega)
              have ⟨cN, fN⟩ := ho2.at' hwl.symm (i := N) (by omega)
              rw [fmap_nth _ (by omega)] at cx cN
              have hput1 := (ho2.put hwl.symm x (wdF (f k) x N)).1
              have hput2 := (hput1.put (by rw [List.length_set]; exact hwl.symm) N 0).1
              rw [HMM.out, gr_lo hkx3 hxN2, ← HMM.out] at hput2
              have hbU := (hb2.setCell (p := ⟨g2, x, none⟩) hgl.1 (.int .i64 (wdF (f k) x N))).setCell (p := ⟨g2, N, none⟩) hgl.1 (.int .i64 0)
              obtain ⟨V, hVV⟩ : ∃ V, V = wdF (f k) x N := ⟨_, rfl⟩
              obtain ⟨U, hUU⟩ : ∃ V, V = wdF (f k) x x := ⟨_, rfl⟩
              rw [← hVV] at cN hput2 hbU
              rw [← hUU] at cx
              have HU3 := Lib.hid hput2
              have hne9 : ¬ x = N := by omega
              have hne8 : ¬ N = x := by omega
              have hO3 := HO.out.below hbU
              have ⟨⟨zO3, cO3⟩, fO3⟩ := hO3
              have HO3 := Lib.hid hO3
              have HRO3 := Lib.hid (HRO.out.below hbU (Nat.le_refl _))
              have HV3 := Lib.hid (HV.out.below hbU)
              have HA3 := Lib.hid (HA.out.below hbU)
              have HB3 := Lib.hid (hb.trans (hbU.mono hbs))
              clear hO3
              clear hput1 hput2 hwl ho2 hVV hUU
              go_wp2_with (at_builtin; refine push_row (v := .slice av k cv) (C := W1.heap.size) rfl _ _ rfl rfl HRO3.out HU3.out (by first | rfl | (simp only [World.size_setCell]; rfl) | simp [Act.eval]) h63 (by omega) (by have := hbU.size; omega) (fun c e => (HRO.out.blk.1 c e)) (fun i hi c e => HRO.out.blk.2 i hi c e) ?_)
              intro v5 w5 ho5 hg5
              have hlo := HRO3.out.o.lt
              have hO5 := HO3.out.kept hg5 (ne_own (fun c e => by have := (hlo c e).1; omega))
              have hV5 := HV3.out.kept hg5 (ne_own (fun c e => by have := (hlo c e).1; omega))
              have b5 : Below w.heap.size w w5 := HB3.out.trans (below_of_grown hg5 (fun c e => by have := (hlo c e).1; omega) (by have := HB3.out.size; omega))
              obtain ⟨a5, c5, e5⟩ := ho5.o.form
              subst e5
              have ⟨⟨zO5, cO5⟩, fO5⟩ := hO5
              obtain ⟨L5, hL5⟩ : ∃ L5, L5 = (sqM (grBI f N x) k M ++ [fmap (grBI f N x k) M]).length := ⟨_, rfl⟩
              rw [← hL5] at ho5 ⊢
              have ho6 := ho5.setBelow (p := ⟨b4, 0, none⟩) (show b4 < b4 + 1 by omega) (.slice a5 L5 c5)
              have hO6 := hO5.set (.slice a5 L5 c5)
              have HA6 := Lib.hid ((HA3.out.kept hg5 (ne_own (fun c e => by have := (hlo c e).1; omega))).kept (grown_set w5 ⟨b4, 0, none⟩ (.slice a5 L5 c5)) (by simp; omega))
              have hV6 := hV5.other (p := ⟨b4, 0, none⟩) (.slice a5 L5 c5) (show w.heap.size + 1 ≠ b4 by omega)
              have b6 := b5.setCell (p := ⟨b4, 0, none⟩) (show w.heap.size ≤ b4 by omega) (.slice a5 L5 c5)
              have H6 := Lib.hid (And.intro ho6 (And.intro hO6 (And.intro hV6 b6)))
              clear ho5 hg5 hlo hO5 hV5 ho6 hO6 hV6 hL5
              go_wp2_with fail
              go_roundw
              case rel => exact ⟨k + 1, _, _, by omega, by go_num, H6.out.2.1, by rw [HN1.out]; exact H6.out.1, H6.out.2.2.1, H6.out.2.2.2, HA6.out⟩
              case measure => simp [intOf]; omega
            · have t2 : ¬ (x : Int) < (N : Int) := by omega
              have hxe : x = N := by omega
              have e9 : fmap (wdF (f k) x) M = fmap (grBI f N x k) M := by rw [HMM.out, hxe]; exact gr_end hkN
              have hU := ho2
              rw [e9] at hU
              have HU3 := Lib.hid hU
              have hbU := hb2
              have hO3 := HO.out.below hbU
              have ⟨⟨zO3, cO3⟩, fO3⟩ := hO3
              have HO3 := Lib.hid hO3
              have HRO3 := Lib.hid (HRO.out.below hbU (Nat.le_refl _))
              have HV3 := Lib.hid (HV.out.below hbU)
              have HA3 := Lib.hid (HA.out.below hbU)
              have HB3 := Lib.hid (hb.trans (hbU.mono hbs))
              clear hO3
              clear hwl ho2 hU hxe e9
              go_wp2_with (at_builtin; refine push_row (v := .slice av k cv) (C := W1.heap.size) rfl _ _ rfl rfl HRO3.out HU3.out (by first | rfl | (simp only [World.size_setCell]; rfl) | simp [Act.eval]) h63 (by omega) (by have := hbU.size; omega) (fun c e => (HRO.out.blk.1 c e)) (fun i hi c e => HRO.out.blk.2 i hi c e) ?_)
              intro v5 w5 ho5 hg5
              have hlo := HRO3.out.o.lt
              have hO5 := HO3.out.kept hg5 (ne_own (fun c e => by have := (hlo c e).1; omega))
              have hV5 := HV3.out.kept hg5 (ne_own (fun c e => by have := (hlo c e).1; omega))
              have b5 : Below w.heap.size w w5 := HB3.out.trans (below_of_grown hg5 (fun c e => by have := (hlo c e).1; omega) (by have := HB3.out.size; omega))
              obtain ⟨a5, c5, e5⟩ := ho5.o.form
              subst e5
              have ⟨⟨zO5, cO5⟩, fO5⟩ := hO5
              obtain ⟨L5, hL5⟩ : ∃ L5, L5 = (sqM (grBI f N x) k M ++ [fmap (grBI f N x k) M]).length := ⟨_, rfl⟩
              rw [← hL5] at ho5 ⊢
              have ho6 := ho5.setBelow (p := ⟨b4, 0, none⟩) (show b4 < b4 + 1 by omega) (.slice a5 L5 c5)
              have hO6 := hO5.set (.slice a5 L5 c5)
              have HA6 := Lib.hid ((HA3.out.kept hg5 (ne_own (fun c e => by have := (hlo c e).1; omega))).kept (grown_set w5 ⟨b4, 0, none⟩ (.slice a5 L5 c5)) (by simp; omega))
              have hV6 := hV5.other (p := ⟨b4, 0, none⟩) (.slice a5 L5 c5) (show w.heap.size + 1 ≠ b4 by omega)
              have b6 := b5.setCell (p := ⟨b4, 0, none⟩) (show w.heap.size ≤ b4 by omega) (.slice a5 L5 c5)
              have H6 := Lib.hid (And.intro ho6 (And.intro hO6 (And.intro hV6 b6)))
              clear ho5 hg5 hlo hO5 hV5 ho6 hO6 hV6 hL5
              go_wp2_with fail
              go_roundw
              case rel => exact ⟨k + 1, _, _, by omega, by go_num, H6.out.2.1, by rw [HN1.out]; exact H6.out.1, H6.out.2.2.1, H6.out.2.2.2, HA6.out⟩
              case measure => simp [intOf]; omega
      · obtain rfl : k = M := by omega
        have t1 : ¬ (k : Int) ≤ (N : Int) := by omega
        have ⟨⟨zO, cO⟩, fO⟩ := hO
        have ⟨⟨zV, cV⟩, fV⟩ := hV
        clear hro hO hV
        go_wp2_with fail
        have hV2 := HV.out.set (.slice av k cv)
        have b2 := hb.setCell (p := ⟨w.heap.size + 1, 0, none⟩) (by simp) (.slice av k cv)
        refine bodyPost_ret (v := .agg #[.slice av k cv]) (by have ⟨⟨_, q1⟩, _⟩ := hV2; simp [results, Try.results171, go_sem, q1]) rfl ?_
        exact ⟨av, cv, by rw [HSH.out, sqM_len], ⟨vl, by rw [HSH.out, sqM_len]; exact (HRO.out.setBelow (show w.heap.size + 1 < b4 + 1 by omega) _).mono (by omega)⟩, b2⟩

set_option maxRecDepth 100000 in
set_option maxHeartbeats 1000000 in
theorem maOf_any (a : Option Addr) (xs : List Int) (cap : Nat) (w : World) (hx : Rd w a xs) (hm : ascB xs = true) :
    Calls Try.prog 112 #[.slice a xs.length cap] w fun e w' => ∃ a0 c0 vl, e = .returned (.agg #[.slice a0 (moK xs xs.length).length c0]) ∧ RowsP w' w.heap.size (.slice a0 (moK xs xs.length).length c0) vl (moK xs xs.length) ∧ Below w.heap.size w w' := by
  have hlen := hx.len
  have hV := Var1.new w (.slice none 0 0) 62
  have hb0 : Below w.heap.size w (w.alloc (.cells #[.slice none 0 0] 62)) := (by repeat (first | exact Below.refl _ _ | assumption | refine Below.alloc ?_ (by first | exact Nat.le_refl _ | (simp only [World.size_alloc, World.size_setCell, World.size_drew]; omega) | omega) _ | refine Below.setCell ?_ (by first | exact Nat.le_refl _ | (simp only [World.size_alloc, World.size_setCell, World.size_drew]; omega) | omega) _ | refine Below.drew ?_))
  have HX := Lib.hid hx
  have h12 := (ascB_iff.1 hm).1
  have HOK := Lib.hid (fun k (hk : k ≤ xs.length) => moK_ok hm hk)
  have HGB := Lib.hid (fun k (hk : k < xs.length) => moK_gw hm hk)
  have HNB := Lib.hid (fun k (hk : k < xs.length) => ascB_small hm hk)
  obtain ⟨w1, hw1⟩ : ∃ w1, w1 = w.alloc (.cells #[.slice none 0 0] 62) := ⟨_, rfl⟩
  have bb1 : Below w1.heap.size w1 (w1.alloc (.cells #[.slice none 0 0] 62)) := (by repeat (first | exact Below.refl _ _ | assumption | refine Below.alloc ?_ (by first | exact Nat.le_refl _ | (simp only [World.size_alloc, World.size_setCell, World.size_drew]; omega) | omega) _ | refine Below.setCell ?_ (by first | exact Nat.le_refl _ | (simp only [World.size_alloc, World.size_setCell, World.size_drew]; omega) | omega) _ | refine Below.drew ?_))
  have hz1 : w1.heap.size = w.heap.size + 1 := by rw [hw1]; simp
  rw [← hw1] at hV hb0
  have HV1 := Lib.hid (hV.below bb1)
  have HO1 := Lib.hid (Var1.new w1 (.slice none 0 0) 62)
  have HB1 := Lib.hid (hb0.trans (bb1.mono hb0.size))
  rw [hw1] at HO1 HV1 HB1
  rw [World.size_alloc] at HO1
  obtain ⟨N, hN⟩ : ∃ N, N = xs.length := ⟨_, rfl⟩
  have HN := Lib.hid hN
  rw [← hN] at hlen h12 HOK HGB HNB ⊢
  clear hV bb1 hx hw1 hz1 hb0 hN hm
  go_enter Try.func112, Try.ntmps112
  go_wp2_with fail
  go_loopw [9] (fun i wr => ∃ (k : Nat) (v : Value) (vl : List Value), k ≤ N ∧ i = .int .i64 k ∧ Var1 wr (w.heap.size + 1) v ∧ RowsP wr (w.heap.size + 2) v vl (moK xs k) ∧ Var1 wr w.heap.size (.slice none 0 0) ∧ Below w.heap.size w wr) (fun i _ => N - (intOf i).toNat)
  case atStart => exact ⟨0, .slice none 0 0, [], Nat.zero_le _, rfl, HO1.out, RowsP.nil _ _, HV1.out, HB1.out⟩
  case round =>
    obtain ⟨k, v, vl, hk, rfl, hO, hro, hV, hb⟩ := hrel
    have hbs := hb.size
    have hO9 := hO.1.1
    obtain ⟨av, cv, ev⟩ := hro.o.form
    subst ev
    have ⟨⟨zO, cO⟩, fO⟩ := hO
    by_cases hlt : k < N
    · have k1 : (k : Int) < (N : Int) := by omega
      obtain ⟨b, off, rfl, hbl, hc⟩ := (HX.out.below hb).cell k (by rw [← HN.out]; exact hlt)
      have ⟨gm, g0, g1, g2⟩ := gwB_iff.1 (HGB.out k hlt)
      obtain ⟨x, hxx⟩ : ∃ x : Nat, nth xs k = (x : Int) := ⟨(nth xs k).toNat, by omega⟩
      have HG := Lib.hid (maGrow_any av (moK xs k) cv x wr hro.rdC gm (by omega))
      rw [show grL (moK xs k) x = moK xs (k+1) by rw [moK, hxx, Int.toNat_natCast]] at HG
      have HV := Lib.hid hV
      have HO := Lib.hid hO
      rw [hxx] at hc
      obtain ⟨L, hL⟩ : ∃ L, L = (moK xs (k+1)).length := ⟨_, rfl⟩
      have HL := Lib.hid hL
      rw [← hL] at HG
      generalize (moK xs k).length = L0 at HG cO ⊢
      clear hro hV hO hxx hL gm g0 g1 g2
      go_wp2_with fail
      refine HG.out.mono ?_
      rintro e w2 ⟨a2, c2, ul, rfl, hro2, hb2⟩
      have hO2 := HO.out.below hb2
      have hV2 := HV.out.below hb2
      have b2 := hb.trans (hb2.mono hbs)
      have ⟨⟨zO2, cO2⟩, fO2⟩ := hO2
      have hs2 := hb2.size
      have hO3 := hO2.set (.slice a2 L c2)
      have hV3 := hV2.other (p := ⟨w.heap.size + 1, 0, none⟩) (.slice a2 L c2) (show w.heap.size ≠ w.heap.size + 1 by omega)
      have hro3 := (hro2.setBelow (p := ⟨w.heap.size + 1, 0, none⟩) hO9 (.slice a2 L c2)).mono (B' := w.heap.size + 2) (by omega)
      have b3 := b2.setCell (p := ⟨w.heap.size + 1, 0, none⟩) (show w.heap.size ≤ w.heap.size + 1 by omega) (.slice a2 L c2)
      have H6 := Lib.hid (And.intro hO3 (And.intro hro3 (And.intro hV3 b3)))
      clear hro2 hO2 hV2 hO3 hV3 hro3 b3 hb2
      go_wp2_with fail
      go_roundw
      case rel => exact ⟨k + 1, _, _, by omega, by go_num, H6.out.1, H6.out.2.1, H6.out.2.2.1, H6.out.2.2.2⟩
      case measure => simp [intOf]; omega
    · obtain rfl : k = N := by omega
      have ⟨⟨zV, cV⟩, fV⟩ := hV
      obtain ⟨L, hL⟩ : ∃ L, L = (moK xs k).length := ⟨_, rfl⟩
      have HL := Lib.hid hL
      rw [← hL] at hro cO
      have HRO := Lib.hid hro
      have HV := Lib.hid hV
      clear hro hO hV hL
      go_wp2_with fail
      have hV2 := HV.out.set (.slice av L cv)
      have b2 := hb.setCell (p := ⟨w.heap.size, 0, none⟩) (by simp) (.slice av L cv)
      refine bodyPost_ret (v := .agg #[.slice av L cv]) (by have ⟨⟨_, q1⟩, _⟩ := hV2; simp [results, Try.results112, go_sem, q1]) rfl ?_
      exact ⟨av, cv, vl, by rw [HL.out], by rw [← HL.out]; exact (HRO.out.setBelow (show w.heap.size < w.heap.size + 2 by omega) _).mono (by omega), b2⟩

theorem asGood_any (a : Option Addr) (xs : List Int) (cap : Nat) (w : World) (hx : Rd w a xs) (hcap : xs.length ≤ cap) :
    Calls Try.prog 111 #[.slice a xs.length cap] w fun e w' => e = .returned (.bool (ascB xs)) ∧ Below w.heap.size w w' := by
  have hlen := hx.len
  by_cases hl : xs.length ≤ 12
  · go_enter Try.func111, Try.ntmps111
    go_wp2_with fail
    go_loopw [10] (fun i wr => ∃ k : Nat, k ≤ xs.length ∧ i = .int .i64 k ∧ (∀ j, j < k → ascOk xs j = true) ∧ Below w.heap.size w wr) (fun i _ => xs.length - (intOf i).toNat)
    case atStart => exact ⟨0, Nat.zero_le _, rfl, fun j hj => by omega, Below.refl _ _⟩
    case round =>
      obtain ⟨k, hk, rfl, hall, hb⟩ := hrel
      have HA := Lib.hid hall
      clear hall
      by_cases hlt : k < xs.length
      · have hxr := hx.below hb
        obtain ⟨b, off, rfl, hbl, hc⟩ := hxr.cell k hlt
        have k1 : (k : Int) ≤ (cap : Int) := by omega
        have k0 : (0 : Int) ≤ (k : Int) := by omega
        cases hin : ascOk xs k
        · have HO : Hid (ascB xs = false) := ascB_no hlt hin
          have hin' : inB (nth xs k) 0 (bndTo xs k) = false := hin
          have HI := Lib.hid hin'
          clear hin hin'
          go_wp2_with fail
          refine (asBound_any _ xs k _ _ hxr hk).mono ?_
          rintro e w1 ⟨rfl, hb1⟩
          go_wp2_with fail
          refine (l1In_any _ _ _ _).mono ?_
          rintro e w' ⟨rfl, rfl⟩
          rw [HI.out]
          go_wp2_with fail
          go_ret
          exact ⟨ret_bool HO.out.symm, hb.trans (hb1.mono hb.size)⟩
        · have hin' : inB (nth xs k) 0 (bndTo xs k) = true := hin
          have HI := Lib.hid hin'
          have HM := Lib.hid hin
          clear hin hin'
          go_wp2_with fail
          refine (asBound_any _ xs k _ _ hxr hk).mono ?_
          rintro e w1 ⟨rfl, hb1⟩
          go_wp2_with fail
          refine (l1In_any _ _ _ _).mono ?_
          rintro e w' ⟨rfl, rfl⟩
          rw [HI.out]
          go_wp2_with fail
          go_roundw
          case rel =>
            refine ⟨k + 1, by omega, by go_num, fun j hj => ?_, hb.trans (hb1.mono hb.size)⟩
            by_cases e : j = k
            · rw [e]; exact HM.out
            · exact HA.out j (by omega)
          case measure => simp [intOf]; omega
      · obtain rfl : k = xs.length := by omega
        have HO : Hid (ascB xs = true) := ascB_iff.2 ⟨hl, HA.out⟩
        go_wp2_with fail
        go_ret
        exact ⟨ret_bool HO.out.symm, hb⟩
  · have HO := Lib.hid (ascB_long hl)
    go_enter Try.func111, Try.ntmps111
    go_wp2_with fail
    go_ret
    exact ⟨ret_bool HO.out.symm, Below.refl _ _⟩

set_option maxRecDepth 100000 in
theorem sMOA_any (a : Option Addr) (xs : List Int) (cap : Nat) (w : World) (hx : Rd w a xs) (hcap : xs.length ≤ cap) :
    Calls Try.prog 48 #[.slice a xs.length cap] w fun e w' => ∃ a0 c0 vl, e = .returned (.tuple #[.agg #[.slice a0 (moaL xs).length c0], .bool (ascB xs)]) ∧ RowsP w' w.heap.size (.slice a0 (moaL xs).length c0) vl (moaL xs) ∧ Below w.heap.size w w' := by
  have hlen := hx.len
  have hV := Var1.new w (.slice none 0 0) 62
  have hb0 : Below w.heap.size w (w.alloc (.cells #[.slice none 0 0] 62)) := (by repeat (first | exact Below.refl _ _ | assumption | refine Below.alloc ?_ (by first | exact Nat.le_refl _ | (simp only [World.size_alloc, World.size_setCell, World.size_drew]; omega) | omega) _ | refine Below.setCell ?_ (by first | exact Nat.le_refl _ | (simp only [World.size_alloc, World.size_setCell, World.size_drew]; omega) | omega) _ | refine Below.drew ?_))
  cases hm : ascB xs
  · have HM := Lib.hid hm
    have H1 : Hid (moaL xs = []) := by simp [Hid, moaL, hm]
    clear hm
    go_enter Try.func48, Try.ntmps48
    go_wp2_with fail
    refine (asGood_any _ _ _ _ (hx.below hb0) hcap).mono ?_
    rintro e w1 ⟨rfl, hb⟩
    rw [HM.out]
    have b1 : Below w.heap.size w w1 := hb0.trans (hb.mono (by simp))
    have hV1 := hV.below hb
    have ⟨⟨zV, cV⟩, fV⟩ := hV1
    clear hb hV
    go_wp2_with fail
    have hV3 := hV1.set (.slice none 0 0)
    have b3 := b1.setCell (p := ⟨w.heap.size, 0, none⟩) (by simp) (.slice none 0 0)
    refine bodyPost_ret (v := .tuple #[.agg #[.slice none 0 0], .bool false]) (by have ⟨⟨_, q1⟩, _⟩ := hV3; simp [results, Try.results48, go_sem, q1]) rfl ?_
    exact ⟨none, 0, [], by rw [H1.out]; rfl, by rw [H1.out]; exact RowsP.nil _ _, b3⟩
  · have HM := Lib.hid hm
    have H1 : Hid (moaL xs = moK xs xs.length) := by simp [Hid, moaL, hm]
    have HC := Lib.hid (fun W (h : Rd W a xs) => maOf_any a xs cap W h hm)
    obtain ⟨L, hL⟩ : ∃ L, L = (moK xs xs.length).length := ⟨_, rfl⟩
    have HL := Lib.hid hL
    rw [← hL] at HC
    clear hm hL
    go_enter Try.func48, Try.ntmps48
    go_wp2_with fail
    refine (asGood_any _ _ _ _ (hx.below hb0) hcap).mono ?_
    rintro e w1 ⟨rfl, hb⟩
    rw [HM.out]
    have b1 : Below w.heap.size w w1 := hb0.trans (hb.mono (by simp))
    have HV1 := Lib.hid (hV.below hb)
    have hz1 : w.heap.size + 1 ≤ w1.heap.size := by have := hb.size; simpa using this
    clear hb hV hb0
    go_wp2_with fail
    refine (HC.out _ (hx.below b1)).mono ?_
    rintro e w2 ⟨a2, c2, vl, rfl, hro, hb2⟩
    have b2 := b1.trans (hb2.mono b1.size)
    have hV2 := HV1.out.below hb2
    have ⟨⟨zV2, cV2⟩, fV2⟩ := hV2
    have HR2 := Lib.hid hro
    have HV2 := Lib.hid hV2
    clear hb2 hro hV2 HC
    go_wp2_with fail
    have hV4 := HV2.out.set (.slice a2 L c2)
    have b4 := b2.setCell (p := ⟨w.heap.size, 0, none⟩) (by simp) (.slice a2 L c2)
    refine bodyPost_ret (v := .tuple #[.agg #[.slice a2 L c2], .bool true]) (by have ⟨⟨_, q1⟩, _⟩ := hV4; simp [results, Try.results48, go_sem, q1]) rfl ?_
    exact ⟨a2, c2, vl, by rw [H1.out, HL.out], by rw [H1.out, ← HL.out]; exact (HR2.out.setBelow (show w.heap.size < w1.heap.size by omega) _).mono (by omega), b4⟩

def amL (xss : List (List Int)) : List Int := if mxB xss then asL xss else []
theorem amL_len (xss : List (List Int)) : (amL xss).length ≤ 1048576 := by
  unfold amL
  split
  · rename_i h
    have := of_mx h
    rw [asL, asF_len, asN]; omega
  · simp

set_option maxRecDepth 100000 in
set_option maxHeartbeats 1000000 in
theorem takeOut_any (g c B n x : Nat) (vl : List Value) (f : Nat → Nat → Int) (w : World) (h : RowsP w B (.slice (some ⟨g, 0, none⟩) n c) vl (sqM f n n)) (hx : x < n) (hB : B ≤ w.heap.size) (hn : n ≤ 12) (hnc : n ≤ c) (hc : c ≤ 1048576) :
    Calls Try.prog 172 #[.slice (some ⟨g, 0, none⟩) n c, .int .i64 (x : Int)] w fun e w' => ∃ ul, e = .returned (.slice (some ⟨g, 0, none⟩) (n - 1) c) ∧ RowsP w' B (.slice (some ⟨g, 0, none⟩) (n - 1) c) ul (sqM (shF f n x) (n - 1) (n - 1)) ∧ Below B w w' := by
  have hxc : x ≤ c := by omega
  have hxn : x ≤ n := by omega
  have HSW := Lib.hid (fun c2 => swapLast_any g c c2 B n n x x vl f w h hxn hx (by omega) hB (by omega))
  have hgl := h.o.lt g rfl
  obtain ⟨F, hF⟩ : ∃ F, F = swF f n x x := ⟨_, rfl⟩
  have HSH : Hid (∀ m k, sqM (shF f n x) m k = sqM (fun a b => F (skp x a) (skp x b)) m k) := fun m k => by rw [hF]; rfl
  rw [← hF] at HSW
  clear hF h
  go_enter Try.func172, Try.ntmps172
  go_wp2_with fail
  refine (HSW.out _).mono ?_
  rintro e w1 ⟨rfl, hro1, hb1⟩
  have hsl : ∀ i, i < n → ∃ a m c, valAt vl i = .slice a m c := fun i hi => by
    obtain ⟨a9, c9, e9⟩ := (hro1.o.row i (by rw [sqM_len]; exact hi)).form
    exact ⟨a9, _, c9, e9⟩
  have hown := hro1.o.own
  rw [sqM_len] at hown
  have HDEL := Lib.hid (delRows_any g n c B x vl w1 hown hsl hx hnc hc)
  have HR1 := Lib.hid hro1
  have hs1 := hb1.size
  clear hro1 hsl hown HSW
  go_wp2_with fail
  refine HDEL.out.mono ?_
  rintro e w2 ⟨rfl, ho2, hg2⟩
  have hro2 := HR1.out.del hx ho2 hg2
  have b2 : Below B w w2 := hb1.trans (grown_below hg2 B (by omega) (by omega))
  obtain ⟨G2, hG2⟩ : ∃ G2 : Nat → Nat → Int, G2 = fun a b => F (skp x a) b := ⟨_, rfl⟩
  have HSH2 : Hid (∀ m k, sqM (shF f n x) m k = sqM (fun a b => G2 a (skp x b)) m k) := fun m k => by rw [HSH.out, hG2]
  rw [← hG2, ← tkM_zero (x := x)] at hro2
  have HR2 := Lib.hid hro2
  have hs2 : w.heap.size ≤ w2.heap.size := b2.size
  obtain ⟨ul0, hul0⟩ : ∃ ul0, ul0 = vl.take x ++ vl.drop (x+1) := ⟨_, rfl⟩
  rw [← hul0] at HR2
  obtain ⟨N1, hN1⟩ : ∃ N1, N1 = n - 1 := ⟨_, rfl⟩
  have HN1 := Lib.hid hN1
  have hN1n : N1 ≤ n := by omega
  rw [← hN1] at HR2 ⊢
  clear hro2 ho2 hg2 hG2 hul0 HDEL HR1 hN1
  go_wp2_with fail
  go_loopw [20] (fun i wr => ∃ (k : Nat) (ul : List Value), k ≤ N1 ∧ i = .int .i64 k ∧ RowsP wr B (.slice (some ⟨g, 0, none⟩) N1 c) ul (tkM G2 n x k) ∧ Below B w wr) (fun i _ => N1 - (intOf i).toNat)
  case atStart => exact ⟨0, _, Nat.zero_le _, rfl, HR2.out, b2⟩
  case round =>
    clear b2
    obtain ⟨k, ul, hk, rfl, hro, hb⟩ := hrel
    have hbs := hb.size
    by_cases hlt : k < N1
    · have k1 : (k : Int) < (N1 : Int) := by omega
      have hkl : k < n - 1 := by rw [← HN1.out]; exact hlt
      have hk9 : k < (tkM G2 n x k).length := by rw [tkM_len]; exact hkl
      obtain ⟨g4, e4, hg4, hg5, hc4, hf4⟩ := hro.outer hk9
      simp only [Option.some.injEq, Addr.mk.injEq, and_true] at e4
      subst e4
      have hrow := hro.o.row k hk9
      obtain ⟨ar, cr, er⟩ := hrow.form
      have hrl : (rowL (tkM G2 n x k) k).length = n := by rw [tkM_row hkl, if_neg (Nat.lt_irrefl k), fmap_len]
      have HRO := Lib.hid hro
      have HER := Lib.hid er
      have HTS := Lib.hid (tkM_step (f := G2) hkl hx)
      rw [er] at hc4 hrow
      have HDL := Lib.hid (delOwn ar cr x (rowL (tkM G2 n x k) k) B wr hrow (by rw [hrl]; exact hx))
      rw [hrl] at hc4 HDL HER
      have HNN : Hid (n - 1 = N1) := HN1.out.symm
      rw [HNN.out] at HDL
      clear hro hrow er hrl hk9 hkl
      go_wp2_with fail
      refine HDL.out.mono ?_
      rintro e w3 ⟨rfl, ho3, hg3⟩
      obtain ⟨g9, c9, e9, hg9, hg10, ⟨z9, hz9⟩, hf9, hnew⟩ := HRO.out.swapRow (k := k) (by rw [tkM_len, HNN.out]; exact hlt) (by rw [HER.out]; exact hg3) ho3 (by rw [HER.out]; cases ar <;> rfl)
      simp only [Value.slice.injEq, Option.some.injEq, Addr.mk.injEq, and_true] at e9
      obtain ⟨rfl, -, -⟩ := e9
      rw [HTS.out] at hnew
      have HNEW := Lib.hid hnew
      have hU := (HRO.out.o.row k (by rw [tkM_len, HNN.out]; exact hlt)).lt
      rw [HER.out] at hU
      have b3 := hb.trans (below_of_grown hg3 (fun c e => (hU c e).1) (by omega))
      have b4 := b3.setCell (p := ⟨g, k, none⟩) hg4 (.slice ar N1 cr)
      clear ho3 hg3 hnew hU
      go_wp2_with fail
      go_roundw
      case rel => exact ⟨k + 1, _, by omega, by go_num, HNEW.out, b4⟩
      case measure => simp [intOf]; omega
    · obtain rfl : k = N1 := by omega
      have HR := Lib.hid hro
      clear hro
      go_wp2_with fail
      go_ret
      have hf := HR.out
      rw [show tkM G2 n x k = sqM (fun a b => G2 a (skp x b)) k k by have h := tkM_end (f := G2) (n := n) (x := x); rw [← HN1.out] at h; exact h, ← HSH2.out] at hf
      rw [← HN1.out]
      exact ⟨ul, rfl, hf, hb⟩

set_option maxRecDepth 100000 in
set_option maxHeartbeats 1000000 in
theorem iShrink_any (a : Option Addr) (xss : List (List Int)) (cap : Nat) (w : World) (hx : RdC w a xss) (hs : xss.length + totS xss xss.length ≤ 1048576) :
    Calls Try.prog 113 #[.agg #[.slice a xss.length cap]] w fun e w' => ∃ a0 c0 vl, e = .returned (.tuple #[.agg #[.slice a0 (shL xss).length c0], .int .i64 (topV xss), .bool (topB xss)]) ∧ RowsP w' w.heap.size (.slice a0 (shL xss).length c0) vl (shL xss) ∧ Below w.heap.size w w' := by
  have hlen := hx.rd.len
  have hV := Var1.new (w.alloc (.cells #[.slice a xss.length cap] 62)) (.slice none 0 0) 62
  have hb0 : Below w.heap.size w ((w.alloc (.cells #[.slice a xss.length cap] 62)).alloc (.cells #[.slice none 0 0] 62)) := (by repeat (first | exact Below.refl _ _ | assumption | refine Below.alloc ?_ (by first | exact Nat.le_refl _ | (simp only [World.size_alloc, World.size_setCell, World.size_drew]; omega) | omega) _ | refine Below.setCell ?_ (by first | exact Nat.le_refl _ | (simp only [World.size_alloc, World.size_setCell, World.size_drew]; omega) | omega) _ | refine Below.drew ?_))
  rw [World.size_alloc] at hV
  have HCL := Lib.hid (fun W (h : RdC W a xss) => iTopMx_any a xss cap W h hs)
  cases hm : topB xss
  · have HM := Lib.hid hm
    have H1 : Hid (shL xss = []) := by simp [Hid, shL, hm]
    have H2 : Hid (topV xss = 0) := by rw [Hid, topV, hm]; rfl
    clear hm
    go_enter Try.func113, Try.ntmps113
    go_wp2_with fail
    refine (HCL.out _ (hx.below hb0)).mono ?_
    rintro e w1 ⟨rfl, hb⟩
    rw [HM.out, H2.out]
    have b1 : Below w.heap.size w w1 := hb0.trans (hb.mono (by simp; omega))
    have hV1 := hV.below hb
    have ⟨⟨zV, cV⟩, fV⟩ := hV1
    clear hb hV
    go_wp2_with fail
    have hV2 := hV1.set (.slice none 0 0)
    have b2 := b1.setCell (p := ⟨w.heap.size + 1, 0, none⟩) (by simp) (.slice none 0 0)
    refine bodyPost_ret (v := .tuple #[.agg #[.slice none 0 0], .int .i64 0, .bool false]) (by have ⟨⟨_, q1⟩, _⟩ := hV2; simp [results, Try.results113, go_sem, q1]) rfl ?_
    exact ⟨none, 0, [], by rw [H1.out, H2.out]; rfl, by rw [H1.out]; exact RowsP.nil _ _, b2⟩
  · have HM := Lib.hid hm
    have ⟨hmx, hpos⟩ := topB_mx hm
    have h12 := mxB_small hmx
    have HMX := Lib.hid hmx
    have htl := topN_lt hmx hpos
    have H2 : Hid (topV xss = ((topN xss : Nat) : Int)) := by rw [Hid, topV, hm]; rfl
    have HE := Lib.hid (mx_eta hmx)
    have HNB := Lib.hid (mxB_num hmx htl (j := xss.length - 1) (by omega))
    have HSH : Hid (shL xss = if totR (rowL xss (topN xss)) = 1 then sqM (shF (decF (atM xss) xss.length (topN xss)) xss.length (topN xss)) (xss.length - 1) (xss.length - 1) else sqM (decF (atM xss) xss.length (topN xss)) xss.length xss.length) := by rw [Hid, shL, if_pos hm, shF_dec]
    have HRC := Lib.hid (fun W (h : RdC W a xss) => rowsOf_any a xss cap W h hs)
    obtain ⟨T, hT⟩ : ∃ T, T = topN xss := ⟨_, rfl⟩
    have HT := Lib.hid hT
    rw [← hT] at htl H2 HSH HNB
    have HX := Lib.hid hx
    clear hm hmx hx hT hs
    go_enter Try.func113, Try.ntmps113
    go_wp2_with fail
    refine (HCL.out _ (HX.out.below hb0)).mono ?_
    rintro e w1 ⟨rfl, hb⟩
    rw [HM.out, H2.out]
    have b1 : Below w.heap.size w w1 := hb0.trans (hb.mono (by simp; omega))
    have hV1 := hV.below hb
    have hc1 := (hb.cell (p := ⟨w.heap.size, 0, none⟩) (by simp; omega)).trans (show _ = some (Value.slice a xss.length cap) by simp)
    have hz1 : w.heap.size + 2 ≤ w1.heap.size := by have := hb.size; simp at this; omega
    clear hb hV hb0 HCL
    go_wp2_with fail
    refine (HRC.out _ (HX.out.below b1)).mono ?_
    rintro e w2 ⟨s, va, vn, vc, rfl, hok, hb2⟩
    rw [HMX.out]
    obtain ⟨vl, hp⟩ := (hok HMX.out).2
    obtain rfl := hp.vn
    have b2 := b1.trans (hb2.mono b1.size)
    have hV2 := (hV1.below hb2).alloc (.cells #[.int .i64 s, .slice va xss.length vc] 120)
    have b2' := b2.alloc b2.size (.cells #[.int .i64 s, .slice va xss.length vc] 120)
    have hP2 := Box2.new w2 (.int .i64 s) (.slice va xss.length vc) 120
    have hz2 : w.heap.size + 2 ≤ w2.heap.size := by have := hb2.size; omega
    have hp2 := hp.below ((Below.refl _ _).alloc (Nat.le_refl _) (.cells #[.int .i64 s, .slice va xss.length vc] 120)) (Nat.le_refl _)
    have HNUM := Lib.hid (numbersOf_any s va vc _ vl xss (w2.alloc (.cells #[.int .i64 s, .slice va xss.length vc] 120)) hp2 (by simp; have := hb2.size; omega) (by omega))
    have HP2 := Lib.hid hp2
    have HV2 := Lib.hid hV2
    have ⟨zP2, cP2, dP2⟩ := hP2
    have HPB := Lib.hid hp.blk
    clear hb2 hok hp hV1 HRC b2 hp2 hV2 hc1
    go_wp2_with fail
    refine HNUM.out.mono ?_
    rintro e w3 ⟨g, rfl, hro, hb3⟩
    have b3 := b2'.trans (hb3.mono b2'.size)
    have hP3 := hP2.below hb3
    have HV3 := Lib.hid (HV2.out.below hb3)
    have hp3 := HP2.out.below hb3 (Nat.le_refl _)
    obtain ⟨gp, rfl, hgp, hcs, _⟩ := hp3.at (k := T) htl
    have hvT := hp3.apart T htl
    have hro2 := hro.mono (B' := w.heap.size + 2) hz1
    obtain ⟨g6, c6, e6, hg6, hg7, hc6, hf6, hnew⟩ := hro2.num (i := T) (j := xss.length - 1) htl (by rw [mxB_len HMX.out htl]; omega)
    have hgne : gp ≠ g6 := fun h => hvT g6 (by rw [e6]; rfl) (by rw [h]; rfl)
    obtain ⟨g4, e4, hg4, hg5, hc4, hf4⟩ := hro2.outer (k := T) htl
    simp only [Option.some.injEq, Addr.mk.injEq, and_true] at e4
    subst e4
    have hg7ne : g6 ≠ w2.heap.size := fun h => by
      have h1 := HPB.out.2 T htl g6 (by rw [e6]; rfl)
      omega
    rw [e6, mxB_len HMX.out htl] at hc4
    have hset := hnew (atM xss T (xss.length - 1) - 1)
    have hmat : setM xss T (xss.length - 1) (atM xss T (xss.length - 1) - 1) = sqM (decF (atM xss) xss.length T) xss.length xss.length := by
      have h := setM_sq (f := atM xss) (n := xss.length) (m := xss.length) (i := T) (j := xss.length - 1) (x := atM xss T (xss.length - 1) - 1) htl (by omega)
      rw [← HE.out] at h
      rw [h]
      exact sqM_congr (fun p hp q hq => by rw [decF])
    rw [hmat] at hset
    have b4 := b3.setCell (p := ⟨g6, xss.length - 1, none⟩) (show w.heap.size ≤ g6 by omega) (.int .i64 (atM xss T (xss.length - 1) - 1))
    have hV4 := HV3.out.other (p := ⟨g6, xss.length - 1, none⟩) (.int .i64 (atM xss T (xss.length - 1) - 1)) (show w.heap.size + 1 ≠ g6 by omega)
    have hP4 := hP3.set (p := ⟨g6, xss.length - 1, none⟩) (.int .i64 (atM xss T (xss.length - 1) - 1)) (show w2.heap.size ≠ g6 by omega)
    have ⟨zP3, cP3, dP3⟩ := hP3
    have ⟨hz0, hz9⟩ := HNB.out
    obtain ⟨Z, hZ⟩ : ∃ Z, Z = atM xss T (xss.length - 1) := ⟨_, rfl⟩
    rw [← hZ] at hc6 hset b4 hV4 hP4 hz0 hz9
    obtain ⟨S, hS⟩ : ∃ S, S = totR (rowL xss T) := ⟨_, rfl⟩
    rw [← hS] at hcs HSH
    obtain ⟨N, hN⟩ : ∃ N, N = xss.length := ⟨_, rfl⟩
    have HN := Lib.hid hN
    rw [← hN] at hlen h12 htl hpos hc6 hf6 hc4 hset b4 hV4 hP4 HSH dP3 ⊢
    have hcast : ((N : Int) - 1) = ((N - 1 : Nat) : Int) := by omega
    have hN1 : N - 1 < N := by omega
    have HS4 := Lib.hid hset
    have HV4 := Lib.hid hV4
    have ⟨zP4, cP4, dP4⟩ := hP4
    have hcs4 : (w3.setCell ⟨g6, N - 1, none⟩ (.int .i64 (Z - 1))).cell? ⟨gp, T * 2, none⟩ = some (.int .i64 S) := (World.cell?_setCell_other _ _ _ _ (by intro h9; exact hgne (congrArg Addr.block h9).symm)).trans hcs
    clear hro hro2 hnew hvT hp3 hP3 hb3 HNUM hP2 hset hV4 e6 hmat hZ hS hN cP2 dP2 hP4
    have hws : w.heap.size + 2 ≤ (w3.setCell ⟨g6, N - 1, none⟩ (.int .i64 (Z - 1))).heap.size := by have := b3.size; simp; omega
    by_cases hS1 : S = 1
    · have hSS : (S == 1) = true := by simp [hS1]
      rw [if_pos hS1] at HSH
      have HTK := Lib.hid (takeOut_any g N (w.heap.size + 2) N T vl (decF (atM xss) N T) _ HS4.out htl hws h12 (Nat.le_refl _) (by omega))
      clear hS1
      go_wp2_with fail
      refine HTK.out.mono ?_
      rintro e w5 ⟨ul, rfl, hro5, hb5⟩
      have b5 := b4.trans (hb5.mono (by omega : w.heap.size ≤ w.heap.size + 2))
      have hV5 : Var1 w5 (w.heap.size + 1) (.slice none 0 0) := ⟨⟨by have := hb5.size; omega, (hb5.cell (p := ⟨w.heap.size + 1, 0, none⟩) (show w.heap.size + 1 < w.heap.size + 2 by omega)).trans HV4.out.1.2⟩, (hb5.frozen (p := ⟨w.heap.size + 1, 0, none⟩) (show w.heap.size + 1 < w.heap.size + 2 by omega)).trans HV4.out.2⟩
      have ⟨⟨zV5, cV5⟩, fV5⟩ := hV5
      have HR5 := Lib.hid hro5
      have HV5 := Lib.hid hV5
      clear hro5 hb5 hV5 HTK
      go_wp2_with fail
      have hV6 := HV5.out.set (.slice (some ⟨g, 0, none⟩) (N - 1) N)
      have b6 := b5.setCell (p := ⟨w.heap.size + 1, 0, none⟩) (by simp) (.slice (some ⟨g, 0, none⟩) (N - 1) N)
      refine bodyPost_ret (v := .tuple #[.agg #[.slice (some ⟨g, 0, none⟩) (N - 1) N], .int .i64 (T : Int), .bool true]) (by have ⟨⟨_, q1⟩, _⟩ := hV6; simp [results, Try.results113, go_sem, q1]) rfl ?_
      exact ⟨some ⟨g, 0, none⟩, N, ul, by rw [HSH.out, H2.out, sqM_len], by rw [HSH.out, sqM_len]; exact (HR5.out.setBelow (show w.heap.size + 1 < w.heap.size + 2 by omega) _).mono (by omega), b6⟩
    · have hSS : (S == 1) = false := by simp [hS1]
      rw [if_neg hS1] at HSH
      have ⟨⟨zV5, cV5⟩, fV5⟩ := HV4.out
      clear hS1
      go_wp2_with fail
      have hV6 := HV4.out.set (.slice (some ⟨g, 0, none⟩) N N)
      have b6 := b4.setCell (p := ⟨w.heap.size + 1, 0, none⟩) (by simp) (.slice (some ⟨g, 0, none⟩) N N)
      refine bodyPost_ret (v := .tuple #[.agg #[.slice (some ⟨g, 0, none⟩) N N], .int .i64 (T : Int), .bool true]) (by have ⟨⟨_, q1⟩, _⟩ := hV6; simp [results, Try.results113, go_sem, q1]) rfl ?_
      exact ⟨some ⟨g, 0, none⟩, N, vl, by rw [HSH.out, H2.out, sqM_len], by rw [HSH.out, sqM_len]; exact (HS4.out.setBelow (show w.heap.size + 1 < w.heap.size + 2 by omega) _).mono (by omega), b6⟩

def smV (xss : List (List Int)) : Int := if mxB xss then matS xss xss.length else 0

theorem iSumMx_any (a : Option Addr) (xss : List (List Int)) (cap : Nat) (w : World) (hx : RdC w a xss) (hs : xss.length + totS xss xss.length ≤ 1048576) :
    Calls Try.prog 51 #[.agg #[.slice a xss.length cap]] w fun e w' => e = .returned (.tuple #[.int .i64 (smV xss), .bool (mxB xss)]) ∧ Below w.heap.size w w' := by
  have hlen := hx.rd.len
  have HCL := Lib.hid (fun W (h : RdC W a xss) => rowsOf_any a xss cap W h hs)
  cases hm : mxB xss
  · have HM := Lib.hid hm
    have H1 : Hid (smV xss = 0) := by simp [Hid, smV, hm]
    clear hm
    go_enter Try.func51, Try.ntmps51
    go_wp2_with fail
    refine (HCL.out _ (hx.below (by repeat (first | exact Below.refl _ _ | assumption | refine Below.alloc ?_ (by first | exact Nat.le_refl _ | (simp only [World.size_alloc, World.size_setCell, World.size_drew]; omega) | omega) _ | refine Below.setCell ?_ (by first | exact Nat.le_refl _ | (simp only [World.size_alloc, World.size_setCell, World.size_drew]; omega) | omega) _ | refine Below.drew ?_)))).mono ?_
    rintro e w1 ⟨s, va, vn, vc, rfl, _, hb⟩
    rw [HM.out]
    have b1 : Below w.heap.size w w1 := Below.trans (by repeat (first | exact Below.refl _ _ | assumption | refine Below.alloc ?_ (by first | exact Nat.le_refl _ | (simp only [World.size_alloc, World.size_setCell, World.size_drew]; omega) | omega) _ | refine Below.setCell ?_ (by first | exact Nat.le_refl _ | (simp only [World.size_alloc, World.size_setCell, World.size_drew]; omega) | omega) _ | refine Below.drew ?_)) (hb.mono (by first | (simp only [World.size_alloc, World.size_setCell, World.size_drew]; omega) | omega))
    clear hb
    go_wp2_with fail
    go_ret2
    exact ⟨ret_ib' H1.out.symm rfl, b1.alloc b1.size _⟩
  · have HM := Lib.hid hm
    have H1 : Hid (smV xss = matS xss xss.length) := by simp [Hid, smV, hm]
    clear hm
    go_enter Try.func51, Try.ntmps51
    go_wp2_with fail
    refine (HCL.out _ (hx.below (by repeat (first | exact Below.refl _ _ | assumption | refine Below.alloc ?_ (by first | exact Nat.le_refl _ | (simp only [World.size_alloc, World.size_setCell, World.size_drew]; omega) | omega) _ | refine Below.setCell ?_ (by first | exact Nat.le_refl _ | (simp only [World.size_alloc, World.size_setCell, World.size_drew]; omega) | omega) _ | refine Below.drew ?_)))).mono ?_
    rintro e w1 ⟨s, va, vn, vc, rfl, hok, hb⟩
    have hok2 := Lib.hid (hok HM.out).1
    rw [HM.out]
    have b1 : Below w.heap.size w w1 := Below.trans (by repeat (first | exact Below.refl _ _ | assumption | refine Below.alloc ?_ (by first | exact Nat.le_refl _ | (simp only [World.size_alloc, World.size_setCell, World.size_drew]; omega) | omega) _ | refine Below.setCell ?_ (by first | exact Nat.le_refl _ | (simp only [World.size_alloc, World.size_setCell, World.size_drew]; omega) | omega) _ | refine Below.drew ?_)) (hb.mono (by first | (simp only [World.size_alloc, World.size_setCell, World.size_drew]; omega) | omega))
    clear hb hok
    go_wp2_with fail
    go_ret2
    exact ⟨ret_ib' (by rw [H1.out, hok2.out]) rfl, b1.alloc b1.size _⟩

theorem wpList_append_rd {w : World} {ops : Array Oper} {rest : List Oper} {o : Oper} {a : Act} {Q : Exit → Act → World → Prop} (hgd : o.guard = none) (s x : Operand)
    (ho : o.op = .call { callee := .builtin .append, args := #[s, x], argTypes := #[24, 24] })
    (base : Nat) (v : Value) (zs : List Int) (hs : a.eval s = v) (hown : OwnI w base v zs) (ad : Option Addr) (xs : List Int) (cap : Nat) (hx : a.eval x = .slice ad xs.length cap) (hr : Rd w ad xs)
    (hsm : zs.length + xs.length ≤ 1000) (hbase : base ≤ w.heap.size)
    (h : ∀ v' w', OwnI w' base v' (zs ++ xs) → w.grownBy w' v.ownBlock → wpList Try.prog ops Q rest (a.put o.dst v') w') : wpList Try.prog ops Q (o :: rest) a w := by
  obtain ⟨i0, hi, hz0, hz1, hz2⟩ := info_parts infoInt
  cases ad with
  | none =>
    have h0 : xs = [] := by
      rcases xs with _ | ⟨y, t⟩
      · rfl
      · obtain ⟨b, off, e, _⟩ := hr.cell 0 (by simp)
        cases e
    subst h0
    exact wpList_append_none hgd s x 24 ho base 3 i0 1 Try.underlying24 hi v zs.length cap (zs.map (Value.int .i64)) hs hown hx (h v w (by rw [List.append_nil]; exact hown) (World.grownBy.refl _ _))
  | some ad =>
    refine wpList_append_own _ hgd s x 24 ho base 3 i0 (.int .i64 0) 1 8 Try.underlying24 hi hz0 hz1 hz2 rfl (by decide) v zs.length (zs.map (Value.int .i64)) hs hown ad xs.length cap (xs.map (Value.int .i64)) hx (by simp) (rd_news hr) (ints_one xs) (by unfold maxLen; omega) (by omega) hbase ?_
    intro v' w' h1 h2 _
    refine h v' w' ?_ h2
    unfold OwnI
    rw [List.length_append, List.map_append]
    exact h1

theorem hasElement_any (s i : Int) (w : World) (h0 : 0 ≤ s) (h1 : s ≤ 9223372036854775807) (hi : 0 ≤ i) :
    Calls Try.prog 81 #[.int .i64 s, .int .i64 i] w fun e w' => e = .returned (.bool (hasB s i)) ∧ w = w' := by
  have H := Lib.hid (has_and h0 h1 hi)
  go_enter Try.func81, Try.ntmps81
  go_wp2
  go_ret
  exact ⟨ret_bool H.out, rfl⟩

theorem belowSet_any (n : Int) (a : Option Addr) (xs : List Int) (cap : Nat) (i : Int) (w : World) (hx : Rd w a xs) (hr : RelP n xs) (hi : 0 ≤ i) :
    Calls Try.prog 191 #[.agg #[.int .i64 n, .slice a xs.length cap], .int .i64 i] w fun e w' => e = .returned (.int .i64 (belowTo xs i xs.length)) ∧ Below w.heap.size w w' := by
  have hx1 := hx.alloc (.cells #[.int .i64 n, .slice a xs.length cap] 26)
  have hn : xs.length ≤ 10 := by have := hr.len; have := hr.n1; omega
  go_enter Try.func191, Try.ntmps191
  go_wp2_with fail
  go_loop [5, 11] (fun s i' => ∃ k : Nat, k ≤ xs.length ∧ i' = .int .i64 k ∧ s = .int .i64 (belowTo xs i k)) (fun _ i => xs.length - (intOf i).toNat)
  case atStart => exact ⟨0, Nat.zero_le _, rfl, rfl⟩
  case round =>
    obtain ⟨k, hk, rfl, rfl⟩ := hrel
    by_cases hlt : k < xs.length
    · obtain ⟨b, off, rfl, hbl, hc⟩ := hx1.cell k hlt
      obtain ⟨b', off', e', hbl', hc'⟩ := hx.cell k hlt
      simp only [Option.some.injEq, Addr.mk.injEq, and_true] at e'
      obtain ⟨rfl, rfl⟩ := e'
      have hpk := hr.pos k hlt
      have hsk : nth xs k ≤ 9223372036854775807 := by have := hr.small k hlt; omega
      have hbs := belowTo_small xs i (k := k) (by omega)
      have hor := Lib.hid (or_bit (b := belowTo xs i k) (k := k) (by omega) (by omega))
      clear hbs
      cases hin : hasB (nth xs k) i
      · go_wp2_with (go_at_call 81; refine (hasElement_any _ _ _ hpk hsk hi).mono ?_; rintro e w' ⟨rfl, rfl⟩)
        go_round
        case rel => exact ⟨k + 1, by omega, by go_num, by simp [belowTo, hin]⟩
        case measure => simp [intOf]; omega
      · go_wp2_with (go_at_call 81; refine (hasElement_any _ _ _ hpk hsk hi).mono ?_; rintro e w' ⟨rfl, rfl⟩)
        go_round
        case rel => exact ⟨k + 1, by omega, by go_num, val_int (by rw [hor.out]; simp [belowTo, hin])⟩
        case measure => simp [intOf]; omega
    · obtain rfl : k = xs.length := by omega
      go_wp2_with fail
      go_ret
      exact ⟨rfl, (by repeat (first | exact Below.refl _ _ | assumption | refine Below.alloc ?_ (by first | exact Nat.le_refl _ | (simp only [World.size_alloc, World.size_setCell, World.size_drew]; omega) | omega) _ | refine Below.setCell ?_ (by first | exact Nat.le_refl _ | (simp only [World.size_alloc, World.size_setCell, World.size_drew]; omega) | omega) _ | refine Below.drew ?_))⟩

theorem asN_pos {xss : List (List Int)} (h : 0 < asN xss) : 0 < xss.length := by
  apply Nat.pos_of_ne_zero
  intro e
  have h1 : xss = [] := List.eq_nil_of_length_eq_zero e
  rw [h1] at h
  exact absurd h (by decide)
theorem rep_set (q : Nat) (x : Int) (l : List Int) : (List.replicate (q+1) (0:Int) ++ l).set q x = List.replicate q 0 ++ x :: l := by
  rw [List.replicate_succ', List.append_assoc, List.set_append_right _ _ (by simp)]
  simp
set_option maxRecDepth 100000 in
set_option maxHeartbeats 2000000 in
theorem iAscM_any (a : Option Addr) (xss : List (List Int)) (cap : Nat) (w : World) (hx : RdC w a xss) (hs : xss.length + totS xss xss.length ≤ 1048576) :
    Calls Try.prog 50 #[.agg #[.slice a xss.length cap]] w fun e w' => ∃ a0 c0, e = .returned (.tuple #[.slice a0 (amL xss).length c0, .bool (mxB xss)]) ∧ OwnI w' w.heap.size (.slice a0 (amL xss).length c0) (amL xss) ∧ Below w.heap.size w w' := by
  have hV := Var1.new w (.slice a xss.length cap) 62
  have hb0 : Below w.heap.size w (w.alloc (.cells #[.slice a xss.length cap] 62)) := (by repeat (first | exact Below.refl _ _ | assumption | refine Below.alloc ?_ (by first | exact Nat.le_refl _ | (simp only [World.size_alloc, World.size_setCell, World.size_drew]; omega) | omega) _ | refine Below.setCell ?_ (by first | exact Nat.le_refl _ | (simp only [World.size_alloc, World.size_setCell, World.size_drew]; omega) | omega) _ | refine Below.drew ?_))
  have ⟨⟨zV, cV⟩, fV⟩ := hV
  have HCL := Lib.hid (fun W (h : RdC W a xss) => iSumMx_any a xss cap W h hs)
  cases hm : mxB xss
  · have HM := Lib.hid hm
    have H1 : Hid (amL xss = []) := by simp [Hid, amL, hm]
    clear hm
    go_enter Try.func50, Try.ntmps50
    go_wp2_with fail
    refine (HCL.out _ (hx.below hb0)).mono ?_
    rintro e w1 ⟨rfl, hb⟩
    rw [HM.out]
    have b1 : Below w.heap.size w w1 := hb0.trans (hb.mono (by simp))
    clear hb
    go_wp2_with fail
    refine bodyPost_ret (v := .tuple #[.slice none 0 0, .bool false]) (by simp [results, Try.results50, go_sem]) rfl ?_
    exact ⟨none, 0, by rw [H1.out]; rfl, by rw [H1.out]; exact OwnI.nil _ _, b1⟩
  · have HM := Lib.hid hm
    have H1 : Hid (amL xss = asL xss) := by simp [Hid, amL, hm]
    have h12 : asN xss ≤ 12 := by have := of_mx hm; rw [asN]; omega
    have hlenL : (asL xss).length = asN xss := asF_len _ _
    have HL : Hid ((asL xss).length = asN xss) := hlenL
    have HS : Hid (smV xss = ((asN xss : Nat) : Int)) := by
      rw [Hid, smV, if_pos hm, asN]
      have := matS_nn (xss := xss) (k := xss.length) (fun j hj => by have := (adB_row (mxB_iff.1 hm).1 hj).1; omega)
      omega
    obtain ⟨i0, hi, hz0, hz1, hz2⟩ := info_parts infoInt
    obtain ⟨N, hN⟩ : ∃ N, N = asN xss := ⟨_, rfl⟩
    have HN := Lib.hid hN
    rw [← hN] at h12 HS HL
    clear hm hN hlenL
    go_enter Try.func50, Try.ntmps50
    go_wp2_with fail
    refine (HCL.out _ (hx.below hb0)).mono ?_
    rintro e w1 ⟨rfl, hb⟩
    rw [HM.out, HS.out]
    have b1 : Below w.heap.size w w1 := hb0.trans (hb.mono (by simp))
    have hV1 := hV.below hb
    have hz1' : w.heap.size + 1 ≤ w1.heap.size := by have := hb.size; simpa using this
    have ⟨⟨zV1, cV1⟩, fV1⟩ := hV1
    clear hb hV zV cV fV hb0 HCL
    go_wp2_with (at_make; refine wpList_make_full _ rfl (.tmp 15) (.tmp 15) 24 rfl (w.heap.size + 1) 3 i0 (.int .i64 0) 1 Try.underlying24 hi hz0 hz1 .i64 .i64 _ _ N rfl rfl rfl rfl (by rw [hz2]; omega) (by unfold maxLen; omega) hz1' ?_; intro w3 hown hgrow; have hV3 := hV1.kept hgrow (by simp); have b3 : Below w.heap.size w w3 := b1.trans (below_grown_none hgrow b1.size); have HO : Hid (OwnI w3 (w.heap.size + 1) (.slice (some ⟨w1.heap.size, 0, none⟩) N N) (List.replicate N 0)) := by (unfold Hid OwnI; rw [List.length_replicate]; simpa [Value.cells, toList_madeCells_one] using hown))
    have hG1 : w.heap.size + 1 ≤ w1.heap.size := hz1'
    have hx3 := hx.below b3
    clear hown hgrow hV1 zV1 cV1 fV1 b1 hz1' hx
    go_loopw [7] (fun i wr => ∃ (k : Nat) (cur : List (List Int)) (ac : Option Addr) (cc : Nat) (lst : List Int), i = .int .i64 ((k : Int) - 1) ∧ mxB cur = true ∧ cur.length + totS cur cur.length ≤ 1048576 ∧ Hid (asN cur = k) ∧ k + lst.length = N ∧ Hid (asF (asN cur) cur ++ lst = asL xss) ∧ OwnI wr (w.heap.size + 1) (.slice (some ⟨w1.heap.size, 0, none⟩) N N) (List.replicate k 0 ++ lst) ∧ Var1 wr w.heap.size (.slice ac cur.length cc) ∧ RdC wr ac cur ∧ Below w.heap.size w wr) (fun i _ => (intOf i + 1).toNat)
    case atStart => exact ⟨N, xss, a, cap, [], by go_num, HM.out, hs, HN.out.symm, by simp, by rw [Hid, List.append_nil]; rfl, by rw [List.append_nil]; exact HO.out, hV3, hx3, b3⟩
    case round =>
      clear hV3 b3 HO hs hx3
      obtain ⟨k, cur, ac, cc, lst, rfl, hmc, hsz, hk, hlen, heq, hown, hV, hr, hb⟩ := hrel
      have ⟨⟨zV, cV⟩, fV⟩ := hV
      have HO := Lib.hid hown
      cases k with
      | succ q =>
        have e1 : (((q + 1 : Nat) : Int) - 1) = (q : Int) := by omega
        rw [e1]
        have HT := Lib.hid (topB_of hmc (asN_pos (by rw [hk.out]; omega)))
        have HSH := Lib.hid (iShrink_any ac cur cc wr hr hsz)
        have HMC := Lib.hid hmc
        have HV := Lib.hid hV
        have hlt := (World.ownsRow.lt hown w1.heap.size (by simp [Value.ownBlock])).2
        clear hmc hsz hown hV hr
        go_wp2_with fail
        refine HSH.out.mono ?_
        rintro e w2 ⟨a0, c0, vl, rfl, hP, hb2⟩
        have hV2 := HV.out.below hb2
        have ⟨⟨zV2, cV2⟩, fV2⟩ := hV2
        have hV3 := hV2.set (.slice a0 (shL cur).length c0)
        have hO3 := (HO.out.below hb2 (Nat.le_refl _)).setBelow (p := ⟨w.heap.size, 0, none⟩) (by simp) (.slice a0 (shL cur).length c0)
        have hP3 := hP.setBelow (p := ⟨w.heap.size, 0, none⟩) zV (.slice a0 (shL cur).length c0)
        have ⟨hcc, hfr⟩ := (HO.out.below hb2 (Nat.le_refl _)).at' (i := q) (by simp; omega) (by simp; omega)
        have hput := (hO3.put (by simp; omega) q (topV cur)).1
        rw [rep_set] at hput
        have HPUT := Lib.hid hput
        have HV4 := Lib.hid (hV3.other (p := ⟨w1.heap.size, q, none⟩) (.int .i64 (topV cur)) (by simp; omega))
        have HP4 := Lib.hid (hP3.setBelow (p := ⟨w1.heap.size, q, none⟩) hlt (.int .i64 (topV cur)))
        have HB4 := Lib.hid (((hb.trans (hb2.mono hb.size)).setCell (p := ⟨w.heap.size, 0, none⟩) (by simp) (.slice a0 (shL cur).length c0)).setCell (p := ⟨w1.heap.size, q, none⟩) (by simp; omega) (.int .i64 (topV cur)))
        have hqN : q < N := by omega
        have hqN2 : (q : Int) < (N : Int) := by omega
        clear hV3 hO3 hP3 hput hP
        go_wp2_with fail
        go_roundw
        case rel => exact ⟨q, shL cur, a0, c0, topV cur :: lst, by go_num, (sh_mx HT.out).1, shL_len _, by have h1 := asN_step HT.out; have h2 := hk.out; unfold Hid; omega, by simp; omega, by rw [Hid, ← asF_step HT.out]; exact heq.out, HPUT.out, HV4.out, HP4.out.rdC, HB4.out⟩
        case measure => simp [intOf]
      | zero =>
        have hL : asL xss = lst := by
          rw [← heq.out, hk.out]; rfl
        have HL2 := Lib.hid hL
        have HLN : Hid (lst.length = N) := by unfold Hid; omega
        clear heq hr hmc hL
        go_wp2_with fail
        refine bodyPost_ret (v := .tuple #[.slice (some ⟨w1.heap.size, 0, none⟩) N N, .bool true]) (by simp [results, Try.results50, go_sem]) rfl ?_
        exact ⟨some ⟨w1.heap.size, 0, none⟩, N, by rw [H1.out, HL2.out, HLN.out], by rw [H1.out, HL2.out, HLN.out]; have h := HO.out.mono (B' := w.heap.size) (Nat.le_succ _); simpa using h, hb⟩

set_option maxRecDepth 100000 in
theorem sumsOf_any (s : Int) (va : Option Addr) (vc B : Nat) (vl : List Value) (xss : List (List Int)) (w : World) (hp : SumP w B (.slice va xss.length vc) vl xss) (h63 : xss.length ≤ 1048576) :
    Calls Try.prog 117 #[.agg #[.int .i64 s, .slice va xss.length vc]] w fun e w' => ∃ g, e = .returned (.slice (some ⟨g, 0, none⟩) xss.length xss.length) ∧ OwnI w' w.heap.size (.slice (some ⟨g, 0, none⟩) xss.length xss.length) (fmap (fun k => totR (rowL xss k)) xss.length) ∧ Below w.heap.size w w' := by
  obtain ⟨i0, hi, hz0, hz1, hz2⟩ := info_parts infoInt
  have HP := Lib.hid hp
  clear hp
  obtain ⟨N, hN⟩ : ∃ N, N = xss.length := ⟨_, rfl⟩
  have HN := Lib.hid hN
  rw [← hN] at h63 ⊢
  have HP2 : Hid (SumP w B (.slice va N vc) vl xss) := by rw [hN]; exact HP.out
  obtain ⟨F, hF⟩ : ∃ F, F = fun k => totR (rowL xss k) := ⟨_, rfl⟩
  have HF : Hid (∀ k, totR (rowL xss k) = F k) := fun k => by rw [hF]
  rw [← hF]
  clear hN hF HP
  go_enter Try.func117, Try.ntmps117
  go_wp2_with (
    at_make
    refine wpList_make_full _ rfl (.tmp 8) (.tmp 8) 24 rfl (w.heap.size + 1) 3 i0 (.int .i64 0) 1 Try.underlying24 hi hz0 hz1 .i64 .i64 _ _ N rfl rfl rfl rfl (by rw [hz2]; omega) (by unfold maxLen; omega) (by simp) ?_
    intro w1 hown hgrow
    have bw1 : Below w.heap.size w w1 := Below.trans (B := w.heap.size) ((Below.refl _ _).alloc (Nat.le_refl _) _) (below_grown_none hgrow (by simp))
    have hc1 : w1.cell? ⟨w.heap.size, 1, none⟩ = some (.slice va N vc) := hgrow.cell (by simp) (by simp)
    have hz1' : w.heap.size + 1 < w1.heap.size := by
      have := (World.ownsRow.lt hown (w.heap.size + 1) (by simp [Value.ownBlock])).2
      omega
    have HO0 := Lib.hid (made_ints F hown))
  go_loopw [13] (fun i wr => ∃ k : Nat, k ≤ N ∧ i = .int .i64 k ∧ wr.ownsRow (w.heap.size + 1) 3 1 (.slice (some ⟨w.heap.size + 1, 0, none⟩) N N) N ((fmap F k ++ List.replicate (N - k) (0:Int)).map (Value.int .i64)) ∧ Below w.heap.size w wr ∧ w.heap.size + 1 < wr.heap.size) (fun i _ => N - (intOf i).toNat)
  case atStart => exact ⟨0, Nat.zero_le _, rfl, by simpa using HO0.out, bw1, hz1'⟩
  case round =>
    obtain ⟨k, hk, rfl, hown2, hb, hgz⟩ := hrel
    have hbs := hb.size
    by_cases hlt : k < N
    · have k1 : (k : Int) < (N : Int) := by omega
      have hpr := HP2.out.below hb (Nat.le_refl _)
      obtain ⟨g0, rfl, hg0, hcA, hcB⟩ := hpr.at (k := k) (by rw [← HN.out]; exact hlt)
      obtain ⟨ar, cr, er⟩ := (hpr.row k (by rw [← HN.out]; exact hlt)).form
      rw [er] at hcB
      rw [HF.out k] at hcA
      have hst := (World.ownsRow.stored hown2 k (.int .i64 (F k))).1
      rw [fill_step F N k hlt] at hst
      have hst := ownsRow_bel hst (w' := (wr.setCell ⟨w.heap.size + 1, k, none⟩ (.int .i64 (F k))).alloc (.cells #[.int .i64 (F k), .slice ar (rowL xss k).length cr] 161)) ((Below.refl _ _).alloc (Nat.le_refl _) _) (Nat.le_refl _)
      have hcc := World.ownsRow.cellAt hown2 k (by omega)
      have hfr := World.ownsRow.frozenAt hown2 k
      have hcc' : ∃ u, wr.cell? ⟨w.heap.size + 1, k, none⟩ = some u := by
        rw [hcc]
        exact ⟨_, List.getElem?_eq_getElem (by simp [fmap_len]; omega)⟩
      obtain ⟨u, hu⟩ := hcc'
      have Hst := Lib.hid hst
      have b3 : Below w.heap.size w ((wr.setCell ⟨w.heap.size + 1, k, none⟩ (.int .i64 (F k))).alloc (.cells #[.int .i64 (F k), .slice ar (rowL xss k).length cr] 161)) := (hb.setCell (by simp) _).alloc (by simpa using hbs) _
      clear hst hcc hown2 hpr er
      go_wp2_with fail
      go_roundw
      case rel => exact ⟨k + 1, by omega, by go_num, Hst.out, b3, by simp; omega⟩
      case measure => simp [intOf]; omega
    · obtain rfl : k = N := by omega
      rw [fill_end] at hown2
      have HO := Lib.hid hown2
      clear hown2
      go_wp2_with fail
      go_ret
      refine ⟨w.heap.size + 1, rfl, ?_, hb⟩
      have h : OwnI wr (w.heap.size + 1) (.slice (some ⟨w.heap.size + 1, 0, none⟩) k k) (fmap F k) := by
        unfold OwnI
        rw [fmap_len]
        exact HO.out
      exact h.mono (by omega)

theorem fmap_cols {xss : List (List Int)} : fmap (fun k => totR (rowL (colsL xss) k)) xss.length = fmap (fun k => totR (colL xss k)) xss.length :=
  fmap_ext (fun k hk => by rw [colsL_row hk])
set_option maxRecDepth 100000 in
set_option maxHeartbeats 1000000 in
theorem iRowSums_any (a : Option Addr) (xss : List (List Int)) (cap : Nat) (w : World) (hx : RdC w a xss) (hs : xss.length + totS xss xss.length ≤ 1048576) :
    Calls Try.prog 52 #[.agg #[.slice a xss.length cap]] w fun e w' => ∃ a0 c0 a1 c1, e = .returned (.tuple #[.slice a0 (rsL xss).length c0, .slice a1 (csL xss).length c1, .bool (mxB xss)]) ∧ OwnI w' w.heap.size (.slice a0 (rsL xss).length c0) (rsL xss) ∧ OwnI w' w.heap.size (.slice a1 (csL xss).length c1) (csL xss) ∧ SepV (.slice a0 (rsL xss).length c0) (.slice a1 (csL xss).length c1) ∧ Below w.heap.size w w' := by
  have hlen := hx.rd.len
  have HCL := Lib.hid (fun W (h : RdC W a xss) => rowsOf_any a xss cap W h hs)
  cases hm : mxB xss
  · have HM := Lib.hid hm
    have H1 : Hid (rsL xss = []) := by simp [Hid, rsL, hm]
    have H2 : Hid (csL xss = []) := by simp [Hid, csL, hm]
    clear hm
    go_enter Try.func52, Try.ntmps52
    go_wp2_with fail
    refine (HCL.out _ (hx.below (by repeat (first | exact Below.refl _ _ | assumption | refine Below.alloc ?_ (by first | exact Nat.le_refl _ | (simp only [World.size_alloc, World.size_setCell, World.size_drew]; omega) | omega) _ | refine Below.setCell ?_ (by first | exact Nat.le_refl _ | (simp only [World.size_alloc, World.size_setCell, World.size_drew]; omega) | omega) _ | refine Below.drew ?_)))).mono ?_
    rintro e w1 ⟨s, va, vn, vc, rfl, _, hb⟩
    rw [HM.out]
    have b1 : Below w.heap.size w w1 := Below.trans (by repeat (first | exact Below.refl _ _ | assumption | refine Below.alloc ?_ (by first | exact Nat.le_refl _ | (simp only [World.size_alloc, World.size_setCell, World.size_drew]; omega) | omega) _ | refine Below.setCell ?_ (by first | exact Nat.le_refl _ | (simp only [World.size_alloc, World.size_setCell, World.size_drew]; omega) | omega) _ | refine Below.drew ?_)) (hb.mono (by first | (simp only [World.size_alloc, World.size_setCell, World.size_drew]; omega) | omega))
    clear hb
    go_wp2_with fail
    refine bodyPost_ret (v := .tuple #[.slice none 0 0, .slice none 0 0, .bool false]) (by simp [results, Try.results52, go_sem]) rfl ?_
    exact ⟨none, 0, none, 0, by rw [H1.out, H2.out]; rfl, by rw [H1.out]; exact OwnI.nil _ _, by rw [H2.out]; exact OwnI.nil _ _, (fun c e => by cases e), b1.alloc b1.size _⟩
  · have HM := Lib.hid hm
    have h12 := mxB_small hm
    have HCO : Hid (adB (colsL xss) = true) := (mxB_iff.1 hm).2.2
    have HLL : Hid (∀ k, k < xss.length → (rowL xss k).length = xss.length) := fun k hk => mxB_len hm hk
    have H1 : Hid (rsL xss = fmap (fun k => totR (rowL xss k)) xss.length) := by rw [Hid, rsL, if_pos hm]
    have H2 : Hid (csL xss = fmap (fun k => totR (colL xss k)) xss.length) := by rw [Hid, csL, if_pos hm]
    have HX := Lib.hid hx
    clear hm hx
    go_enter Try.func52, Try.ntmps52
    go_wp2_with fail
    refine (HCL.out _ (HX.out.below (by repeat (first | exact Below.refl _ _ | assumption | refine Below.alloc ?_ (by first | exact Nat.le_refl _ | (simp only [World.size_alloc, World.size_setCell, World.size_drew]; omega) | omega) _ | refine Below.setCell ?_ (by first | exact Nat.le_refl _ | (simp only [World.size_alloc, World.size_setCell, World.size_drew]; omega) | omega) _ | refine Below.drew ?_)))).mono ?_
    rintro e w1 ⟨s, va, vn, vc, rfl, hok, hb⟩
    rw [HM.out]
    obtain ⟨vl, hp⟩ := (hok HM.out).2
    obtain rfl := hp.vn
    have b1 : Below w.heap.size w w1 := Below.trans (by repeat (first | exact Below.refl _ _ | assumption | refine Below.alloc ?_ (by first | exact Nat.le_refl _ | (simp only [World.size_alloc, World.size_setCell, World.size_drew]; omega) | omega) _ | refine Below.setCell ?_ (by first | exact Nat.le_refl _ | (simp only [World.size_alloc, World.size_setCell, World.size_drew]; omega) | omega) _ | refine Below.drew ?_)) (hb.mono (by first | (simp only [World.size_alloc, World.size_setCell, World.size_drew]; omega) | omega))
    have hc1 := (hb.cell (p := ⟨w.heap.size, 0, none⟩) (by simp)).trans (show _ = some (Value.slice a xss.length cap) by simp)
    have hz1 : w.heap.size + 1 ≤ w1.heap.size := by have := hb.size; simp at this; omega
    have HP := Lib.hid hp
    clear hb hok hp
    have hA2 := Box2.new w1 (.int .i64 s) (.slice va xss.length vc) 120
    have bb2 : Below w1.heap.size w1 (w1.alloc (.cells #[.int .i64 s, .slice va xss.length vc] 120)) := (by repeat (first | exact Below.refl _ _ | assumption | refine Below.alloc ?_ (by first | exact Nat.le_refl _ | (simp only [World.size_alloc, World.size_setCell, World.size_drew]; omega) | omega) _ | refine Below.setCell ?_ (by first | exact Nat.le_refl _ | (simp only [World.size_alloc, World.size_setCell, World.size_drew]; omega) | omega) _ | refine Below.drew ?_))
    have c2 := (bb2.cell (p := ⟨w.heap.size, 0, none⟩) (show w.heap.size < w1.heap.size by omega)).trans hc1
    have b2 := b1.trans (bb2.mono b1.size)
    go_wp2_with fail
    refine (columnsOf_any a xss cap _ (HX.out.below b2).rd h12 HLL.out).mono ?_
    rintro e w4 ⟨g, vlc, rfl, hro, hb4⟩
    have hA4 := hA2.below hb4
    have b4 := b2.trans (hb4.mono b2.size)
    have bb4 : Below w1.heap.size w1 w4 := bb2.trans (hb4.mono (by simp))
    have hAU := iAddUp_any (some ⟨g, 0, none⟩) (colsL xss) xss.length w4 hro.o.rd (by rw [colsL_sq]; exact sq_small (by omega))
    rw [colsL_len, HCO.out] at hAU
    have HAU := Lib.hid hAU
    have hs4 : w1.heap.size + 1 ≤ w4.heap.size := by have := hb4.size; simp at this; omega
    clear hb4 hro hAU
    go_wp2_with fail
    refine HAU.out.mono ?_
    rintro e w5 ⟨s5, va5, vn5, vc5, rfl, hok5, hb5⟩
    obtain ⟨vl5, hp5⟩ := (hok5 (by first | rfl | trivial)).2
    have hvn5 := hp5.vn
    rw [colsL_len] at hvn5
    subst hvn5
    have hA5 := hA4.below hb5
    have b5 := b4.trans (hb5.mono b4.size)
    have bb5 : Below w1.heap.size w1 w5 := bb4.trans (hb5.mono (by omega))
    have HP5 := Lib.hid (HP.out.below bb5 (Nat.le_refl _))
    have HQ5 := Lib.hid hp5
    have hs5 : w4.heap.size ≤ w5.heap.size := hb5.size
    clear hb5 hok5 hp5 HP
    obtain ⟨W6, hW6⟩ : ∃ x : World, x = w5.alloc (.cells #[.int .i64 s5, .slice va5 xss.length vc5] 120) := ⟨_, rfl⟩
    have HW6 := Lib.hid hW6
    have bb6 : Below w5.heap.size w5 W6 := by rw [hW6]; exact (by repeat (first | exact Below.refl _ _ | assumption | refine Below.alloc ?_ (by first | exact Nat.le_refl _ | (simp only [World.size_alloc, World.size_setCell, World.size_drew]; omega) | omega) _ | refine Below.setCell ?_ (by first | exact Nat.le_refl _ | (simp only [World.size_alloc, World.size_setCell, World.size_drew]; omega) | omega) _ | refine Below.drew ?_))
    have hB6 : Box2 W6 w5.heap.size (.int .i64 s5) (.slice va5 xss.length vc5) := by rw [hW6]; exact Box2.new _ _ _ _
    have hA6 := hA5.below bb6
    have b6 := b5.trans (bb6.mono b5.size)
    have HP6 := Lib.hid (HP5.out.below bb6 (Nat.le_refl _))
    have HQ6 := Lib.hid (HQ5.out.below bb6 (Nat.le_refl _))
    have HC1 : Hid (∀ W, Below W6.heap.size W6 W → Calls Try.prog 117 #[.agg #[.int .i64 s, .slice va xss.length vc]] W fun e w' => ∃ g, e = .returned (.slice (some ⟨g, 0, none⟩) xss.length xss.length) ∧ OwnI w' W.heap.size (.slice (some ⟨g, 0, none⟩) xss.length xss.length) (fmap (fun k => totR (rowL xss k)) xss.length) ∧ Below W.heap.size W w') := fun W hb => sumsOf_any s va vc _ vl xss W (HP6.out.below hb (Nat.le_refl _)) (by omega)
    have HC2 : Hid (∀ W, Below W6.heap.size W6 W → Calls Try.prog 117 #[.agg #[.int .i64 s5, .slice va5 xss.length vc5]] W fun e w' => ∃ g, e = .returned (.slice (some ⟨g, 0, none⟩) xss.length xss.length) ∧ OwnI w' W.heap.size (.slice (some ⟨g, 0, none⟩) xss.length xss.length) (fmap (fun k => totR (colL xss k)) xss.length) ∧ Below W.heap.size W w') := fun W hb => by
      have h := sumsOf_any s5 va5 vc5 _ vl5 (colsL xss) W (by rw [colsL_len]; exact HQ6.out.below hb (Nat.le_refl _)) (by rw [colsL_len]; omega)
      rw [colsL_len, fmap_cols] at h
      exact h
    subst hW6
    clear HAU HCL bb6 HP5 HQ5 HP6 HQ6
    go_wp2_with fail
    have ⟨zA6, cA6, dA6⟩ := hA6
    have ⟨zB6, cB6, dB6⟩ := hB6
    go_region_held3 (fun w' => w'.cell? ⟨w1.heap.size, 0, none⟩ = some (.int .i64 s) ∧ w'.cell? ⟨w1.heap.size, 1, none⟩ = some (.slice va xss.length vc) ∧ w'.cell? ⟨w5.heap.size, 0, none⟩ = some (.int .i64 s5) ∧ w'.cell? ⟨w5.heap.size, 1, none⟩ = some (.slice va5 xss.length vc5))
      (first | exact ⟨Pb.2.1, Pb.2.2, Qb.2.1, Qb.2.2⟩ | exact ⟨Pa.2.1, Pa.2.2, Qa.2.1, Qa.2.2⟩ | go_keep)
      (first | (have _g := hta; go_at_call 117; refine (HC2.out _ (by first | exact hta | exact hta.trans ((Joins.below_draws _ _ _).mono hta.size) | exact hta.drew)).mono ?_; rintro e wb ⟨g2, rfl, o2, hbb⟩; have htb := hta.trans (hbb.mono hta.size); have Pb := hA6.below htb; have Qb := hB6.below htb) | (go_at_call 117; refine (HC1.out _ (Joins.below_draws _ _ _)).mono ?_; rintro e wa ⟨g1, rfl, o1, hba⟩; have hta := (Joins.below_draws _ _ _).trans hba; have Pa := hA6.below hta; have Qa := hB6.below hta))
    all_goals
      go_wp2_with fail
      refine bodyPost_ret (v := .tuple #[.slice (some ⟨g1, 0, none⟩) xss.length xss.length, .slice (some ⟨g2, 0, none⟩) xss.length xss.length, .bool true]) (by simp [results, Try.results52, go_sem]) rfl ?_
      have hl1 := o1.lt g1 rfl
      have hl2 := o2.lt g2 rfl
      have hn : SepV (.slice (some ⟨g1, 0, none⟩) xss.length xss.length) (.slice (some ⟨g2, 0, none⟩) xss.length xss.length) := by
        intro c e1 e2
        simp only [Value.ownBlock, Option.some.injEq] at e1 e2
        omega
      have h5 : w.heap.size ≤ w5.heap.size := b5.size
      have h6 : w.heap.size ≤ wa.heap.size := by have := hta.size; simp at this; omega
      have o1b := o1.below hbb (Nat.le_refl _)
      refine ⟨_, _, _, _, by rw [H1.out, H2.out, fmap_len, fmap_len], by rw [H1.out, fmap_len]; exact o1b.mono (by first | omega | (simp; omega)), by rw [H2.out, fmap_len]; exact o2.mono (by omega), by rw [H1.out, H2.out, fmap_len, fmap_len]; exact hn, b6.trans (htb.mono b6.size)⟩

theorem isRise_any (a : Option Addr) (xs : List Int) (n cap k : Nat) (w : World) (hx : Rd w a xs) (hk : k < xs.length) (hn : xs.length ≤ n) :
    Calls Try.prog 118 #[.slice a n cap, .int .i64 k] w fun e w' => e = .returned (.bool (riseB xs k)) ∧ Below w.heap.size w w' := by
  have hlen := hx.len
  by_cases h0 : k = 0
  · subst h0
    have HR : Hid (riseB xs 0 = false) := rfl
    go_enter Try.func118, Try.ntmps118
    go_wp2_with fail
    go_quiet (fail)
    go_wp2_with fail
    go_ret
    exact ⟨ret_bool HR.out.symm, Joins.below_draws _ _ _⟩
  · obtain ⟨b, off, rfl, hbl, hc⟩ := hx.cell k hk
    obtain ⟨b', off', e', hbl', hc'⟩ := hx.cell (k-1) (by omega)
    simp only [Option.some.injEq, Addr.mk.injEq, and_true] at e'
    obtain ⟨rfl, rfl⟩ := e'
    have hcast : IntKind.i64.wrap ((k : Int) - 1) = ((k - 1 : Nat) : Int) := by rw [i64_wrap, IntWalk.wrap64_in _ ⟨by omega, by omega⟩]; omega
    have hp : (0 : Int) < (k : Int) := by omega
    have hp2 : decide ((0 : Int) < (k : Int)) = true := by simp; omega
    have hp3 : 0 < k := by omega
    have HR : Hid (riseB xs k = decide (nth xs (k-1) < nth xs k)) := by simp [Hid, riseB]; omega
    go_enter Try.func118, Try.ntmps118
    go_wp2_with fail
    go_quiet (fail)
    go_wp2_with fail
    go_ret
    exact ⟨ret_bool HR.out.symm, Joins.below_draws _ _ _⟩

theorem iAscentsOf_any (a : Option Addr) (xs : List Int) (cap : Nat) (w : World) (hx : Rd w a xs) :
    Calls Try.prog 53 #[.slice a xs.length cap] w fun e w' => e = .returned (.tuple #[.int .i64 (aoN xs), .bool (ascB xs)]) ∧ Below w.heap.size w w' := by
  have hlen := hx.len
  go_enter Try.func53, Try.ntmps53
  go_wp2_with fail
  refine (iIsAscent_any _ _ _ _ hx).mono ?_
  rintro e w1 ⟨rfl, hb⟩
  cases hb0 : ascB xs
  · have H1 : Hid (aoN xs = 0) := by simp [Hid, aoN, hb0]
    have HB := Lib.hid hb0
    clear hb0
    go_wp2_with fail
    refine bodyPost_ret (v := .tuple #[.int .i64 0, .bool false]) (by simp [results, Try.results53, go_sem]) rfl ?_
    exact ⟨by rw [H1.out, HB.out], hb⟩
  · have H1 : Hid (aoN xs = (ascTo xs xs.length : Int)) := by simp [Hid, aoN, hb0]
    have h12 := (ascB_iff.1 hb0).1
    have HB := Lib.hid hb0
    clear hb0
    go_wp2_with fail
    go_loopw [4, 11] (fun s i wr => ∃ k : Nat, k ≤ xs.length ∧ i = .int .i64 k ∧ s = .int .i64 (ascTo xs k : Nat) ∧ Below w.heap.size w wr) (fun _ i _ => xs.length - (intOf i).toNat)
    case atStart => exact ⟨0, Nat.zero_le _, rfl, rfl, hb⟩
    case round =>
      clear hb
      obtain ⟨k, hk, rfl, rfl, hb⟩ := hrel
      have hak := ascTo_le xs k
      by_cases hlt : k < xs.length
      · cases hr : riseB xs k
        · have HS := Lib.hid (ascTo_no hr)
          have HR := Lib.hid hr
          clear hr
          go_wp2_with fail
          refine (isRise_any _ xs _ _ _ _ (hx.below hb) hlt (Nat.le_refl _)).mono ?_
          rintro e w2 ⟨rfl, hb2⟩
          rw [HR.out]
          go_wp2_with fail
          go_roundw
          case rel => exact ⟨k + 1, by omega, by go_num, by rw [HS.out], hb.trans (hb2.mono hb.size)⟩
          case measure => simp [intOf]; omega
        · have HS := Lib.hid (ascTo_yes hr)
          have HR := Lib.hid hr
          clear hr
          go_wp2_with fail
          refine (isRise_any _ xs _ _ _ _ (hx.below hb) hlt (Nat.le_refl _)).mono ?_
          rintro e w2 ⟨rfl, hb2⟩
          rw [HR.out]
          go_wp2_with fail
          go_roundw
          case rel => exact ⟨k + 1, by omega, by go_num, by rw [HS.out]; go_num, hb.trans (hb2.mono hb.size)⟩
          case measure => simp [intOf]; omega
      · obtain rfl : k = xs.length := by omega
        go_wp2_with fail
        refine bodyPost_ret (v := .tuple #[.int .i64 (ascTo xs xs.length : Nat), .bool true]) (by simp [results, Try.results53, go_sem]) rfl ?_
        exact ⟨by rw [H1.out, HB.out], hb⟩

set_option maxRecDepth 100000 in
set_option maxHeartbeats 8000000 in
theorem walk (a0 : Option Addr) (n0 cap0 : Nat) (a1 : Option Addr) (n1 cap1 : Nat) (w : World) (hR0 : RdB w a0 n0) (hl0 : n0 ≤ 9223372036854775807) (hR1 : RdB w a1 n1) (hl1 : n1 ≤ 9223372036854775807) :
    Calls Try.prog 6 #[.slice a0 n0 cap0, .slice a1 n1 cap1] w fun e w' => e = .returned (.bool true) ∧ Below w.heap.size w w' := by
  go_enter Try.func6, Try.ntmps6
  go_wp2_with fail
  refine (big_any _ _ _ _ _ _ _ hl0 hl1).mono ?_
  rintro e w' ⟨he, rfl⟩
  rcases he with rfl | ⟨rfl, hb0, hb1⟩
  · go_wp2_with fail
    go_ret
    exact ⟨rfl, (by repeat (first | exact Below.refl _ _ | assumption | refine Below.alloc ?_ (by first | exact Nat.le_refl _ | (simp only [World.size_alloc, World.size_setCell, World.size_drew]; omega) | omega) _ | refine Below.setCell ?_ (by first | exact Nat.le_refl _ | (simp only [World.size_alloc, World.size_setCell, World.size_drew]; omega) | omega) _ | refine Below.drew ?_))⟩
  · go_wp2_with fail
    refine (drMOA_any _ _ _ _ hR0 hb0).mono ?_
    rintro e w1 ⟨a, cap, xs, rfl, ho, hl, hx, hb⟩
    have hcp := ho.capLe
    have HB := Lib.hid hb
    have HR := Lib.hid ho.rd
    clear hx ho hb hR0 hR1 hl0 hl1 hb0
    obtain ⟨M, hM⟩ : ∃ M, M = moaL xs := ⟨_, rfl⟩
    obtain ⟨F, hF⟩ : ∃ F, F = ascB xs := ⟨_, rfl⟩
    have hms : M.length + totS M M.length ≤ 1048576 := by rw [hM]; exact moaL_len _
    have HIM := Lib.hid (fun W (h : Rd W a xs) => iMOA_any a xs cap W h hcp)
    have HSM := Lib.hid (fun W (h : Rd W a xs) => sMOA_any a xs cap W h hcp)
    rw [← hM, ← hF] at HIM HSM
    have HME := Lib.hid hM
    have HFE := Lib.hid hF
    have q1 : (F != F) = false := by simp
    have hml : M.length ≤ 1048576 := by omega
    clear hM hF
    have HEQ : Hid (∀ l : List Int, eqL l l = true) := fun l => by simp [eqL]
    go_wp2_with fail
    refine (HIM.out _ HR.out).mono ?_
    rintro e w3 ⟨a3, c3, l3, rfl, ho3, hb3⟩
    replace HB := Lib.hid (HB.out.trans (hb3.mono HB.out.size))
    replace HR := Lib.hid (HR.out.below hb3)
    clear hb3
    have HC := Lib.hid ho3.rdC
    clear ho3
    have ba3 : Below w3.heap.size w3 (w3.alloc (.cells #[.slice a3 M.length c3] 62)) := (Below.refl _ _).alloc (Nat.le_refl _) _
    have HA := Lib.hid (Box1.new w3 (.slice a3 M.length c3) 62)
    replace HB := Lib.hid (HB.out.trans (ba3.mono HB.out.size))
    replace HR := Lib.hid (HR.out.below ba3)
    replace HC := Lib.hid (HC.out.below ba3)
    obtain ⟨v3, hv3⟩ : ∃ x : World, x = w3.alloc (.cells #[.slice a3 M.length c3] 62) := ⟨_, rfl⟩
    have HV3 := Lib.hid hv3
    rw [← hv3] at HA HB HR HC
    clear ba3 hv3
    have cA := HA.out.2
    go_wp2_with fail
    rw [← HV3.out]
    clear cA
    have ⟨zA, cA⟩ := HA.out
    refine (HSM.out _ HR.out).mono ?_
    rintro e w4 ⟨a4, c4, l4, rfl, ho4, hb4⟩
    try clear zA cA
    replace HB := Lib.hid (HB.out.trans (hb4.mono HB.out.size))
    replace HA := Lib.hid (HA.out.below hb4)
    replace HR := Lib.hid (HR.out.below hb4)
    replace HC := Lib.hid (HC.out.below hb4)
    have ⟨zA, cA⟩ := HA.out
    clear hb4
    have HD := Lib.hid ho4.rdC
    clear ho4 HIM HSM
    have ba4 : Below w4.heap.size w4 (w4.alloc (.cells #[.slice a4 M.length c4] 62)) := (Below.refl _ _).alloc (Nat.le_refl _) _
    have HP := Lib.hid (Box1.new w4 (.slice a4 M.length c4) 62)
    replace HB := Lib.hid (HB.out.trans (ba4.mono HB.out.size))
    replace HA := Lib.hid (HA.out.below ba4)
    replace HR := Lib.hid (HR.out.below ba4)
    replace HC := Lib.hid (HC.out.below ba4)
    replace HD := Lib.hid (HD.out.below ba4)
    obtain ⟨v4, hv4⟩ : ∃ x : World, x = w4.alloc (.cells #[.slice a4 M.length c4] 62) := ⟨_, rfl⟩
    have HV4 := Lib.hid hv4
    rw [← hv4] at HP HB HA HR HC HD
    clear ba4 hv4
    have cP := HP.out.2
    go_wp2_with fail
    rw [← HV4.out]
    try clear zA cA
    clear cP
    have ⟨zA, cA⟩ := HA.out
    have ⟨zP, cP⟩ := HP.out
    refine ((pSameM_same a3 a4 M c3 c4 _ HC.out HD.out hml)).mono ?_
    rintro e w5 ⟨rfl, hb5⟩
    try clear zA cA
    try clear zP cP
    replace HB := Lib.hid (HB.out.trans (hb5.mono HB.out.size))
    replace HA := Lib.hid (HA.out.below hb5)
    replace HP := Lib.hid (HP.out.below hb5)
    replace HR := Lib.hid (HR.out.below hb5)
    replace HC := Lib.hid (HC.out.below hb5)
    replace HD := Lib.hid (HD.out.below hb5)
    have ⟨zA, cA⟩ := HA.out
    have ⟨zP, cP⟩ := HP.out
    clear hb5
    clear HD HP
    try clear zP cP
    cases hFF : F
    · go_wp2_with fail
      go_ret
      exact ⟨rfl, HB.out⟩
    · have hA : ascB xs = true := by rw [← HFE.out]; exact hFF
      have h12 := (ascB_iff.1 hA).1
      have hM2 : M = moK xs xs.length := by rw [HME.out, moaL, if_pos hA]
      have ⟨m1, m2, m3, m4⟩ := moK_ok hA (Nat.le_refl xs.length)
      have hasl := as_all hA
      have hrw := mo_rows hA
      have hz := zeros_row hA xs.length (Nat.le_refl _)
      rw [← hM2] at m1 m2 m3 m4 hasl hrw hz
      have htb : topB M = decide (0 < xs.length) := by
        rw [topB, m1, Bool.true_and, decide_eq_decide]
        split at hrw <;> omega
      have HAM : Hid (∀ W, RdC W a3 M → Calls Try.prog 50 #[.agg #[.slice a3 M.length c3]] W fun e w' => ∃ a' c', e = .returned (.tuple #[.slice a' xs.length c', .bool true]) ∧ OwnI w' W.heap.size (.slice a' xs.length c') xs ∧ Below W.heap.size W w') := fun W h => by
        have := iAscM_any a3 M c3 W h hms
        rw [amL, if_pos m1, hasl, m1] at this
        exact this
      have HSU : Hid (∀ W, RdC W a3 M → Calls Try.prog 51 #[.agg #[.slice a3 M.length c3]] W fun e w' => e = .returned (.tuple #[.int .i64 (xs.length : Int), .bool true]) ∧ Below W.heap.size W w') := fun W h => by
        have := iSumMx_any a3 M c3 W h hms
        rw [smV, if_pos m1, m2, m1] at this
        exact this
      have HRS : Hid (∀ W, RdC W a3 M → Calls Try.prog 52 #[.agg #[.slice a3 M.length c3]] W fun e w' => ∃ a0 c0 a1 c1, e = .returned (.tuple #[.slice a0 (rsL M).length c0, .slice a1 (csL M).length c1, .bool true]) ∧ OwnI w' W.heap.size (.slice a0 (rsL M).length c0) (rsL M) ∧ OwnI w' W.heap.size (.slice a1 (csL M).length c1) (csL M) ∧ Below W.heap.size W w') := fun W h => by
        have := iRowSums_any a3 M c3 W h hms
        rw [m1] at this
        refine this.mono ?_
        rintro e w' ⟨a', c', a'', c'', rfl, h1, h2, _, h3⟩
        exact ⟨a', c', a'', c'', rfl, h1, h2, h3⟩
      have HAS : Hid (∀ W, Rd W a xs → Calls Try.prog 53 #[.slice a xs.length cap] W fun e w' => e = .returned (.tuple #[.int .i64 ((ascTo xs xs.length : Nat) : Int), .bool true]) ∧ Below W.heap.size W w') := fun W h => by
        have := iAscentsOf_any a xs cap W h
        rw [aoN, hA, if_pos rfl] at this
        exact this
      have HTM : Hid (∀ W, RdC W a3 M → Calls Try.prog 54 #[.agg #[.slice a3 M.length c3]] W fun e w' => e = .returned (.tuple #[.int .i64 (topV M), .bool (decide (0 < xs.length))]) ∧ Below W.heap.size W w') := fun W h => by
        have := iTopMx_any a3 M c3 W h hms
        rw [htb] at this
        exact this
      have hrl : (rsL M).length = M.length := by rw [rsL, if_pos m1, fmap_len]
      have hcl : (csL M).length = M.length := by rw [csL, if_pos m1, fmap_len]
      have hml12 : M.length ≤ 13 := by split at hrw <;> (have := ascTo_le xs xs.length; omega)
      have HP1 : Hid (∀ W a' c', Rd W a' (rsL M) → Calls Try.prog 55 #[.slice a' (rsL M).length c'] W fun e w' => e = .returned (.int .i64 (xs.length : Int)) ∧ Below W.heap.size W w') := fun W a' c' h => by
        have := pSum_any a' (rsL M) (rsL M).length c' W h rfl (by omega) (rs_small m1)
        rw [rs_tot m1, m2] at this
        exact this
      have HP2 : Hid (∀ W a' c', Rd W a' (csL M) → Calls Try.prog 55 #[.slice a' (csL M).length c'] W fun e w' => e = .returned (.int .i64 (xs.length : Int)) ∧ Below W.heap.size W w') := fun W a' c' h => by
        have := pSum_any a' (csL M) (csL M).length c' W h rfl (by omega) (cs_small m1)
        rw [cs_tot m1, m2] at this
        exact this
      have hend : (xs.length = 0 ∧ M.length = 0) ∨ (0 < xs.length ∧ topV M = nth xs (xs.length - 1) ∧ M.length = ascTo xs xs.length + 1 ∧ nth (rsL M) 0 = ((zrTo xs xs.length : Nat) : Int)) := by
        rcases Nat.eq_zero_or_pos xs.length with h0 | h0
        · left; rw [if_pos h0] at hrw; exact ⟨h0, hrw⟩
        · right
          rw [if_neg (by omega)] at hrw
          refine ⟨h0, ?_, hrw, ?_⟩
          · rw [topI, if_neg (by omega), clLast, if_neg (by omega)] at m3
            rw [topV, if_pos (topB_of m1 (by omega))]; exact m3
          · rw [rsL, if_pos m1, fmap_nth _ (by omega)]; exact hz
      have hat := ascTo_le xs xs.length
      have hzl := zrTo_le xs xs.length
      generalize rsL M = RS at HRS HP1 hend hrl
      generalize csL M = CS at HRS HP2 hcl
      generalize topV M = tv at HTM hend
      generalize ascTo xs xs.length = asc at HAS hend hat
      have HEND := Lib.hid hend
      have HRL := Lib.hid hrl
      have HZS : Hid (∀ k, zrTo xs (k+1) = zrTo xs k + (if nth xs k = 0 then 1 else 0)) := fun k => rfl
      have HZL := Lib.hid (zrTo_le xs)
      have HZ0 : Hid (zrTo xs 0 = 0) := rfl
      have hn1 : ((xs.length : Int) != (xs.length : Int)) = false := by simp
      clear hA hM2 m1 m2 m3 m4 hasl hrw hz htb hrl hcl hend HME HFE hFF q1 hms hzl
      go_wp2_with fail
      refine (HAM.out _ HC.out).mono ?_
      rintro e w6 ⟨a6, c6, rfl, ho6, hb6⟩
      try clear zA cA
      replace HB := Lib.hid (HB.out.trans (hb6.mono HB.out.size))
      replace HA := Lib.hid (HA.out.below hb6)
      replace HR := Lib.hid (HR.out.below hb6)
      replace HC := Lib.hid (HC.out.below hb6)
      have ⟨zA, cA⟩ := HA.out
      clear hb6
      have HU := Lib.hid ho6.rd
      clear ho6 HAM
      go_wp2_with fail
      refine (HSU.out _ HC.out).mono ?_
      rintro e w7 ⟨rfl, hb7⟩
      try clear zA cA
      replace HB := Lib.hid (HB.out.trans (hb7.mono HB.out.size))
      replace HA := Lib.hid (HA.out.below hb7)
      replace HR := Lib.hid (HR.out.below hb7)
      replace HC := Lib.hid (HC.out.below hb7)
      replace HU := Lib.hid (HU.out.below hb7)
      have ⟨zA, cA⟩ := HA.out
      clear hb7
      go_wp2_with fail
      refine (HRS.out _ HC.out).mono ?_
      rintro e w8 ⟨a8, c8, d8, e8, rfl, ho8, hq8, hb8⟩
      try clear zA cA
      replace HB := Lib.hid (HB.out.trans (hb8.mono HB.out.size))
      replace HA := Lib.hid (HA.out.below hb8)
      replace HR := Lib.hid (HR.out.below hb8)
      replace HC := Lib.hid (HC.out.below hb8)
      replace HU := Lib.hid (HU.out.below hb8)
      have ⟨zA, cA⟩ := HA.out
      clear hb8
      have HV := Lib.hid ho8.rd
      have HW := Lib.hid hq8.rd
      clear ho8 hq8 HRS HSU
      go_wp2_with fail
      refine (HAS.out _ HR.out).mono ?_
      rintro e w9 ⟨rfl, hb9⟩
      try clear zA cA
      replace HB := Lib.hid (HB.out.trans (hb9.mono HB.out.size))
      replace HA := Lib.hid (HA.out.below hb9)
      replace HR := Lib.hid (HR.out.below hb9)
      replace HC := Lib.hid (HC.out.below hb9)
      replace HU := Lib.hid (HU.out.below hb9)
      replace HV := Lib.hid (HV.out.below hb9)
      replace HW := Lib.hid (HW.out.below hb9)
      have ⟨zA, cA⟩ := HA.out
      clear hb9
      go_wp2_with fail
      refine (HTM.out _ HC.out).mono ?_
      rintro e w10 ⟨rfl, hb10⟩
      try clear zA cA
      replace HB := Lib.hid (HB.out.trans (hb10.mono HB.out.size))
      replace HA := Lib.hid (HA.out.below hb10)
      replace HR := Lib.hid (HR.out.below hb10)
      replace HC := Lib.hid (HC.out.below hb10)
      replace HU := Lib.hid (HU.out.below hb10)
      replace HV := Lib.hid (HV.out.below hb10)
      replace HW := Lib.hid (HW.out.below hb10)
      have ⟨zA, cA⟩ := HA.out
      clear hb10
      go_wp2_with fail
      refine ((pSame_any a6 a xs xs c6 cap _ HU.out HR.out)).mono ?_
      rw [HEQ.out]
      rintro e w11 ⟨rfl, hb11⟩
      try clear zA cA
      replace HB := Lib.hid (HB.out.trans (hb11.mono HB.out.size))
      replace HA := Lib.hid (HA.out.below hb11)
      replace HR := Lib.hid (HR.out.below hb11)
      replace HC := Lib.hid (HC.out.below hb11)
      replace HU := Lib.hid (HU.out.below hb11)
      replace HV := Lib.hid (HV.out.below hb11)
      replace HW := Lib.hid (HW.out.below hb11)
      have ⟨zA, cA⟩ := HA.out
      clear hb11
      go_wp2_with fail
      refine (HP1.out _ _ _ HV.out).mono ?_
      rintro e w12 ⟨rfl, hb12⟩
      try clear zA cA
      replace HB := Lib.hid (HB.out.trans (hb12.mono HB.out.size))
      replace HA := Lib.hid (HA.out.below hb12)
      replace HR := Lib.hid (HR.out.below hb12)
      replace HC := Lib.hid (HC.out.below hb12)
      replace HU := Lib.hid (HU.out.below hb12)
      replace HV := Lib.hid (HV.out.below hb12)
      replace HW := Lib.hid (HW.out.below hb12)
      have ⟨zA, cA⟩ := HA.out
      clear hb12
      go_wp2_with fail
      refine (HP2.out _ _ _ HW.out).mono ?_
      rintro e w13 ⟨rfl, hb13⟩
      try clear zA cA
      replace HB := Lib.hid (HB.out.trans (hb13.mono HB.out.size))
      replace HA := Lib.hid (HA.out.below hb13)
      replace HR := Lib.hid (HR.out.below hb13)
      replace HC := Lib.hid (HC.out.below hb13)
      replace HU := Lib.hid (HU.out.below hb13)
      replace HV := Lib.hid (HV.out.below hb13)
      replace HW := Lib.hid (HW.out.below hb13)
      have ⟨zA, cA⟩ := HA.out
      clear hb13
      clear HAS HTM HP1 HP2 HW HU HC
      rcases HEND.out with ⟨h0, hM0⟩ | ⟨h0, ht, hM1, hr0⟩
      · have e1 : decide (0 < xs.length) = false := decide_eq_false (by omega)
        rw [e1]
        clear HEND HRL HZS HZL HZ0 hat e1 HR HV hcp h12 hl
        generalize M.length = m at *
        generalize xs.length = n at *
        subst h0
        subst hM0
        go_wp2_with fail
        go_ret
        exact ⟨rfl, HB.out⟩
      · have e1 : decide (0 < xs.length) = true := decide_eq_true h0
        have l1 : (0 : Int) < (xs.length : Int) := by omega
        rw [e1]
        have hx9 : ((M.length : Int) == ((asc : Int) + 1)) = true := by rw [beq_iff_eq]; omega
        have HR0 := Lib.hid hr0
        have HTV := Lib.hid ht
        have hrs : 0 < RS.length := by rw [HRL.out]; omega
        clear e1 hM1 HEND hr0 ht
        go_wp2_with fail
        have HBB := HB
        have HRR := HR
        have HVV := HV
        have HAA := HA
        clear cA zA
        go_loopw [21, 129] (fun z i wr => ∃ k : Nat, k ≤ xs.length ∧ i = .int .i64 k ∧ z = .int .i64 ((zrTo xs k : Nat) : Int) ∧ Below w13.heap.size w13 wr) (fun _ i _ => xs.length - (intOf i).toNat)
        case atStart => exact ⟨0, Nat.zero_le _, rfl, by rw [HZ0.out]; rfl, Below.refl _ _⟩
        case round =>
          obtain ⟨k, hk, rfl, rfl, hb⟩ := hrel
          have HT := Lib.hid hb
          by_cases hlt : k < xs.length
          · have k1 : (k : Int) < (xs.length : Int) := by omega
            obtain ⟨b1, o1, rfl, hb1, hc1⟩ := (HRR.out.below hb).cell k hlt
            have hz := HZS.out k
            have hzb := HZL.out k
            generalize zrTo xs k = z0 at hz hzb ⊢
            generalize nth xs k = x0 at hc1 hz
            clear hb
            by_cases hx0 : x0 = 0
            · subst hx0
              rw [if_pos rfl] at hz
              have HZ := Lib.hid hz
              clear hz
              go_wp2_with fail
              go_roundw
              case rel => exact ⟨k + 1, by omega, by go_num, val_int (by rw [HZ.out]; omega), HT.out⟩
              case measure => simp [intOf]; omega
            · rw [if_neg hx0] at hz
              have HZ := Lib.hid hz
              have hxb : (x0 == 0) = false := by simpa using hx0
              clear hz
              go_wp2_with fail
              go_roundw
              case rel => exact ⟨k + 1, by omega, by go_num, val_int (by rw [HZ.out]; omega), HT.out⟩
              case measure => simp [intOf]; omega
          · obtain rfl : k = xs.length := by omega
            have HBz := Lib.hid (HBB.out.trans (hb.mono HBB.out.size))
            obtain ⟨b1, o1, rfl, hb1, hc1⟩ := (HRR.out.below hb).cell (xs.length - 1) (by omega)
            obtain ⟨b2, o2, rfl, hb2, hc2⟩ := (HVV.out.below hb).cell 0 hrs
            have ⟨zA, cA⟩ := HAA.out.below hb
            rw [HR0.out, Nat.add_zero] at hc2
            have htv := HTV.out
            rw [← htv] at hc1
            have e9 : (xs.length : Int) - 1 = ((xs.length - 1 : Nat) : Int) := by omega
            have l9 : ((xs.length - 1 : Nat) : Int) < (xs.length : Int) := by omega
            have l8 : (0 : Int) < (RS.length : Int) := by omega
            have et : (tv == tv) = true := by simp
            have ez : (((zrTo xs xs.length : Nat) : Int) == ((zrTo xs xs.length : Nat) : Int)) = true := by simp
            generalize ((zrTo xs xs.length : Nat) : Int) = zz at hc2 ez ⊢
            clear hb htv
            go_wp2_with fail
            go_ret
            exact ⟨rfl, HBz.out⟩

theorem rd_of_trod {H : Type} {enc : TypeId × Value → H} {W : World} {fuel : Nat} {c : Value} {y : DataW H × List MemPlace}
    (h : DataW.trod enc Try.prog W 0 (fun _ => true) true fuel 24 [c] = some y) : ∃ (a : Option Addr) (xs : List Int) (cap : Nat), c = .slice a xs.length cap ∧ Rd W a xs ∧ ∀ k, k < xs.length → (Lit.int .i64 (nth xs k)).wf = true := by
  rcases Go.ChangeShapes.open_ints Try.underlying24 Try.underlying3 (by kernel_rfl) h with ⟨hcs, _⟩ | ⟨x, len, cap, zs, hcs, _, hl, hm, hz, _, hcell, hwf⟩
  · simp only [List.cons.injEq, and_true] at hcs
    exact ⟨none, [], 0, hcs, ⟨by simp, fun k hk => by simp at hk⟩, fun k hk => by simp at hk⟩
  · simp only [List.cons.injEq, and_true] at hcs
    simp only [if_true] at hz
    have hlen : (zs.take len).length = len := by rw [List.length_take]; omega
    have hn : ∀ k, k < len → nth (zs.take len) k = zs.getD k 0 := by
      intro k hk
      simp only [nth, List.getD_eq_getElem?_getD, List.getElem?_take, hk, if_true]
    refine ⟨some x, zs.take len, cap, by rw [hlen]; exact hcs, ⟨by rw [hlen]; unfold maxLen at hm; omega, fun k hk => ?_⟩, fun k hk => ?_⟩
    · rw [hlen] at hk
      obtain ⟨b, off, sp⟩ := x
      have h0 := hcell 0 (by omega)
      have hsp : sp = none := by simpa [Addr.add] using World.cell?_spot h0
      subst hsp
      have hk' := hcell k (by omega)
      rw [Addr.add_lit] at hk'
      exact ⟨b, off, rfl, World.block_lt_of_cell? _ _ h0, by rw [hk', hn k hk]⟩
    · rw [hlen] at hk
      rw [hn k hk]
      have hk2 : k < zs.length := by omega
      exact hwf _ (by rw [List.getD_eq_getElem?_getD, List.getElem?_eq_getElem hk2]; exact List.getElem_mem hk2)

theorem own : ownKnob Try.prog.godebug = none := by kernel_rfl
theorem laidOut : laidOutB Try.prog = true := by kernel_rfl
theorem wf_bd {n : Int} (h : (Lit.int .i64 n).wf = true) : -9223372036854775808 ≤ n ∧ n ≤ 9223372036854775807 := by
  simp [Lit.wf, IntKind.min, IntKind.max, IntKind.bits, IntKind.signed] at h
  omega

theorem wf_byte {n : Int} (h : (Lit.int .u8 n).wf = true) : 0 ≤ n ∧ n ≤ 255 := by
  simp [Lit.wf, IntKind.min, IntKind.max, IntKind.bits, IntKind.signed] at h
  omega
/-- a slice of bytes that was handed over -/
theorem rdB_of_trod {H : Type} {enc : TypeId × Value → H} {W : World} {fuel : Nat} {c : Value} {y : DataW H × List MemPlace}
    (h : DataW.trod enc Try.prog W 0 (fun _ => true) true fuel 22 [c] = some y) : ∃ (a : Option Addr) (n cap : Nat), c = .slice a n cap ∧ RdB W a n ∧ n ≤ 9223372036854775807 := by
  rcases Go.ChangeShapes.open_ints Try.underlying22 Try.underlying5 (by kernel_rfl) h with ⟨hcs, _⟩ | ⟨x, len, cap, zs, hcs, _, hl, hm, hz, _, hcell, hwf⟩
  · simp only [List.cons.injEq, and_true] at hcs
    exact ⟨none, 0, 0, hcs, ⟨fun k hk => by omega⟩, by omega⟩
  · simp only [List.cons.injEq, and_true] at hcs
    simp only [if_true] at hz
    refine ⟨some x, len, cap, hcs, ⟨fun k hk => ?_⟩, by unfold maxLen at hm; omega⟩
    obtain ⟨b, off, sp⟩ := x
    have h0 := hcell 0 (by omega)
    have hsp : sp = none := by simpa [Addr.add] using World.cell?_spot h0
    subst hsp
    have hk' := hcell k (by omega)
    rw [Addr.add_lit] at hk'
    have hk2 : k < zs.length := by omega
    have hw := hwf _ (show zs.getD k 0 ∈ zs by rw [List.getD_eq_getElem?_getD, List.getElem?_eq_getElem hk2]; exact List.getElem_mem hk2)
    refine ⟨b, off, rfl, World.block_lt_of_cell? _ _ h0, zs.getD k 0, hk', ?_⟩
    exact wf_byte hw

open Go.ChangeShapes Go.WideShapes Go.ChangeAt Go.RowKit in
set_option maxRecDepth 100000 in
theorem lifted (os : Os) (started : os.Started) (H : Type) (enc : TypeId × Value → H) :
    ReturnsInHanded {} Try.checked os 6 .any (Rows.fnAscentsAreMatricesSpec.pre6 enc Try.prog Try.f6 Rows.fnAscentsAreMatricesRow.domain false) (Rows.fnAscentsAreMatricesSpec.post enc Try.prog Try.f6 false true false false) := by
  refine returnsInHanded_of_change (C := Try.checked) own started (by kernel_rfl) Try.func6
    (ChangeSpec.witness6 (enc := enc) (C := Try.checked) false ⟨#[], #[.slice none 0 0, .slice none 0 0], []⟩ 8 (by kernel_rfl) (by kernel_rfl) (by kernel_rfl) (by kernel_rfl)) ?_
  intro W base args ds gs before hval0 hW hcnd _
  have hval : ∀ (j : Nat) t v, Try.f6.params[j]? = some t → args[j]? = some v → Value.okWide Try.prog W .any base t v := hval0
  have hW' := hW
  obtain ⟨p, q, hA0, hV, rfl, hfz, hnd⟩ := hW
  have hA : DataW.TrodAll enc Try.prog W 0 (fun _ => true) true Try.f6.params.toList args.toList ds p := hA0
  rw [Try.params6] at hA hval
  obtain ⟨v0, vs0, d0, ds0, p0, q0, hargs, rfl, rfl, h0, r0⟩ := trodAll_cons hA
  obtain ⟨v1, vs1, d1, ds1, p1, q1, rfl, rfl, rfl, h1, r1⟩ := trodAll_cons r0
  obtain ⟨rfl, rfl, rfl⟩ := trodAll_nil r1
  obtain rfl : args = #[v0, v1] := by cases args; simp_all
  obtain ⟨rfl, rfl⟩ := trodVars_none hV
  have lt0 : ∀ x ∈ p0, x.block < W.heap.size := by obtain ⟨m, hm⟩ := h0; exact DataW.trod_lt m _ _ _ hm
  have lt1 : ∀ x ∈ p1, x.block < W.heap.size := by obtain ⟨m, hm⟩ := h1; exact DataW.trod_lt m _ _ _ hm
  obtain ⟨a0, len0, cap0, rfl⟩ := okWide_slice Try.underlying22 (hval 0 22 v0 rfl rfl)
  obtain ⟨a0, n0, cap0, e0, rd0, ln0⟩ := (by obtain ⟨fu, hf⟩ := h0; simp only [Value.cells] at hf; exact rdB_of_trod hf : ∃ (a : Option Addr) (n cap : Nat), Value.slice a0 len0 cap0 = .slice a n cap ∧ RdB W a n ∧ n ≤ 9223372036854775807)
  simp only [Value.slice.injEq] at e0
  obtain ⟨rfl, rfl, rfl⟩ := e0
  obtain ⟨a1, len1, cap1, rfl⟩ := okWide_slice Try.underlying22 (hval 1 22 v1 rfl rfl)
  obtain ⟨a1, n1, cap1, e1, rd1, ln1⟩ := (by obtain ⟨fu, hf⟩ := h1; simp only [Value.cells] at hf; exact rdB_of_trod hf : ∃ (a : Option Addr) (n cap : Nat), Value.slice a1 len1 cap1 = .slice a n cap ∧ RdB W a n ∧ n ≤ 9223372036854775807)
  simp only [Value.slice.injEq] at e1
  obtain ⟨rfl, rfl, rfl⟩ := e1
  clear hA0 hval0
  refine (walk a0 len0 cap0 a1 len1 cap1 W rd0 ln0 rd1 ln1).mono fun e W' ⟨he, bel⟩ => ?_
  subst he
  exact ⟨_, rfl, _, _, _, [], _, [], hW', trodAll_mk1 (shut_bool Try.underlying4 _), (trodAll_cons_mk (Below.trod laidOut (by kernel_rfl) (of_decide_eq_true (by kernel_rfl)) h0 bel lt0) (trodAll_cons_mk (Below.trod laidOut (by kernel_rfl) (of_decide_eq_true (by kernel_rfl)) h1 bel lt1) trodAll_mk0)), rfl, bel.frame _, fun h => by cases h⟩
theorem proved : Rows.FnAscentsAreMatricesSaid :=
  OpenClaim.holds_of_wide 6 Try.f6 rfl rfl rfl rfl rfl rfl rfl ⟨rfl, rfl, rfl, rfl, rfl⟩ rfl rfl rfl rfl rfl (by kernel_rfl) Try.func6 (by kernel_rfl)
    (of_decide_eq_true (by kernel_rfl)) (by unfold Func.isWrapper; first | (rw [if_pos (by decide +kernel)]; kernel_rfl) | (rw [if_neg (by decide +kernel)]; exact ⟨rfl, rfl⟩))
    (fun os started H enc _ => lifted os started H enc)

end Go.Proofs.Ytkpfjemlldiogaa.ascentsAreMatrices
