/- PROVED: the law FnRunsOfEqualNumbers returns true for every input, and each of its arguments reads afterwards as before. No conditions. -/
import Derived.Test.YtdmhjmcljpladaaRows
import Derived.WalkKit
import Derived.WalkSpells
import Derived.WalkLawsBesides
import Derived.Deep.QuietTactic
import Derived.BigQuiet
import Derived.ProofKit
import Derived.OpenShut
import Derived.ShutString
import Derived.ChangeOld
import Derived.Below
import Derived.Lib.SmallJoins
import Derived.Lib.Hide
import Derived.Maps.AppendAt
import Derived.Deep.AppendLies
import Derived.Deep.RegionHeld3
import Derived.Deep.DeepCutAuto
import Derived.StillTail
import Derived.Lib.SliceRun
import Derived.Shelf.Spec.SlicesInsertGrow
import Derived.Deep.RegionLaw
import Derived.Test.YtdmhjmcljpladaaRunsOfEqualNumbersP2
namespace Go.Proofs.Ytdmhjmcljpladaa.runsOfEqualNumbers
open Go Go.RowKit
set_option linter.unusedVariables false
set_option linter.unusedSimpArgs false
set_option maxHeartbeats 400000
set_option maxRecDepth 100000 in
set_option maxHeartbeats 1000000 in
theorem iGrow_any (a : Option Addr) (xss : List (List Int)) (cap : Nat) (p : Int) (w : World) (hx : RdC w a xss) (hs : xss.length + totS xss xss.length ≤ 1048576) (hp : -9223372036854775808 ≤ p ∧ p ≤ 9223372036854775807) :
    Calls Try.prog 40 #[.agg #[.slice a xss.length cap], .int .i64 p] w fun e w' => ∃ a0 c0 vl, e = .returned (.tuple #[.agg #[.slice a0 (gwL xss p).length c0], .bool (gwB xss p)]) ∧ RowsP w' w.heap.size (.slice a0 (gwL xss p).length c0) vl (gwL xss p) ∧ Below w.heap.size w w' := by
  have hlen := hx.rd.len
  have hV := Var1.new (w.alloc (.cells #[.slice a xss.length cap] 60)) (.slice none 0 0) 60
  have hA := (Box1.new w (.slice a xss.length cap) 60).below ((Below.refl _ _).alloc (Nat.le_refl _) (.cells #[.slice none 0 0] 60))
  have hb0 : Below w.heap.size w ((w.alloc (.cells #[.slice a xss.length cap] 60)).alloc (.cells #[.slice none 0 0] 60)) := (by repeat (first | exact Below.refl _ _ | assumption | refine Below.alloc ?_ (by first | exact Nat.le_refl _ | (simp only [World.size_alloc, World.size_setCell, World.size_drew]; omega) | omega) _ | refine Below.setCell ?_ (by first | exact Nat.le_refl _ | (simp only [World.size_alloc, World.size_setCell, World.size_drew]; omega) | omega) _ | refine Below.drew ?_))
  rw [World.size_alloc] at hV
  have HTP := Lib.hid (fun W (h : RdC W a xss) => iTopMx_any a xss cap W h hs)
  have HRC := Lib.hid (fun W (h : RdC W a xss) => rowsOf_any a xss cap W h hs)
  have HX := Lib.hid hx
  cases hm : mxB xss
  · have HM := Lib.hid hm
    have H1 : Hid (gwB xss p = false) := by simp [Hid, gwB, hm]
    have H2 : Hid (gwL xss p = []) := by rw [Hid, gwL, H1.out]; rfl
    clear hm
    go_enter Try.func40, Try.ntmps40
    go_wp2_with fail
    refine (HRC.out _ (HX.out.below hb0)).mono ?_
    rintro e w2 ⟨s, va, vn, vc, rfl, hok, hb2⟩
    rw [HM.out]
    have b2 := hb0.trans (hb2.mono (by simp; omega))
    have hV2 := (hV.below hb2).alloc (.cells #[.int .i64 s, .slice va vn vc] 112)
    have b2' := b2.alloc b2.size (.cells #[.int .i64 s, .slice va vn vc] 112)
    have ⟨⟨zV, cV⟩, fV⟩ := hV2
    clear hb2 hok hV b2 hA
    go_wp2_with fail
    have hV3 := hV2.set (.slice none 0 0)
    have b3 := b2'.setCell (p := ⟨w.heap.size + 1, 0, none⟩) (by simp) (.slice none 0 0)
    refine bodyPost_ret (v := .tuple #[.agg #[.slice none 0 0], .bool false]) (by have ⟨⟨_, q1⟩, _⟩ := hV3; simp [results, Try.results40, go_sem, q1]) rfl ?_
    exact ⟨none, 0, [], by rw [H1.out, H2.out]; rfl, by rw [H2.out]; exact RowsP.nil _ _, b3⟩
  · have HM := Lib.hid hm
    have h12 := mxB_small hm
    have hmS := (adB_iff.1 (mxB_iff.1 hm).1).2
    have hmN : 0 ≤ matS xss xss.length := matS_nn (fun j hj => by have := ((adB_iff.1 (mxB_iff.1 hm).1).1 j hj).2; omega)
    clear hm
    go_enter Try.func40, Try.ntmps40
    go_wp2_with fail
    refine (HRC.out _ (HX.out.below hb0)).mono ?_
    rintro e w2 ⟨s, va, vn, vc, rfl, hok, hb2⟩
    rw [HM.out]
    obtain ⟨hsS, vl, hpp⟩ := hok HM.out
    obtain rfl := hpp.vn
    have b2 := hb0.trans (hb2.mono (by simp; omega))
    have hV2 := (hV.below hb2).alloc (.cells #[.int .i64 s, .slice va xss.length vc] 112)
    have hA2 := (hA.below hb2).below ((Below.refl _ _).alloc (Nat.le_refl _) (.cells #[.int .i64 s, .slice va xss.length vc] 112))
    have b2' := b2.alloc b2.size (.cells #[.int .i64 s, .slice va xss.length vc] 112)
    have hP2 := Var2.new w2 (.int .i64 s) (.slice va xss.length vc) 112
    have hz2 : w.heap.size + 2 ≤ w2.heap.size := by have := hb2.size; simp at this; omega
    have hp2 := hpp.below ((Below.refl _ _).alloc (Nat.le_refl _) (.cells #[.int .i64 s, .slice va xss.length vc] 112)) (Nat.le_refl _)
    have hp2 := hp2.mono (B' := w.heap.size + 2) (by simp)
    have HPB := Lib.hid hpp.blk
    have HPP := Lib.hid hpp
    have HV0 := Lib.hid (hV.below hb2)
    have HA0 := Lib.hid (hA.below hb2)
    have HB0 := Lib.hid b2
    have ⟨⟨zV, cV⟩, fV⟩ := hV2
    have ⟨zA, cA⟩ := hA2
    have HP2 := Lib.hid hp2
    have HV2 := Lib.hid hV2
    have HA2 := Lib.hid hA2
    have HQ2 := Lib.hid hP2
    have HSS := Lib.hid hsS
    clear hb2 hok hpp hp2 hV b2 hA hb0 hV2 hP2 hA2
    by_cases hp0 : p < 0
    · have H1 : Hid (gwB xss p = false) := by rw [Hid, ← Bool.not_eq_true, gwB_iff]; omega
      have H2 : Hid (gwL xss p = []) := by rw [Hid, gwL, H1.out]; rfl
      clear hsS
      go_wp2_with fail
      have hV3 := HV2.out.set (.slice none 0 0)
      have b3 := b2'.setCell (p := ⟨w.heap.size + 1, 0, none⟩) (by simp) (.slice none 0 0)
      refine bodyPost_ret (v := .tuple #[.agg #[.slice none 0 0], .bool false]) (by have ⟨⟨_, q1⟩, _⟩ := hV3; simp [results, Try.results40, go_sem, q1]) rfl ?_
      exact ⟨none, 0, [], by rw [H1.out, H2.out]; rfl, by rw [H2.out]; exact RowsP.nil _ _, b3⟩
    · by_cases hpN : (xss.length : Int) < p
      · have H1 : Hid (gwB xss p = false) := by rw [Hid, ← Bool.not_eq_true, gwB_iff]; omega
        have H2 : Hid (gwL xss p = []) := by rw [Hid, gwL, H1.out]; rfl
        clear hsS
        go_wp2_with fail
        have hV3 := HV2.out.set (.slice none 0 0)
        have b3 := b2'.setCell (p := ⟨w.heap.size + 1, 0, none⟩) (by simp) (.slice none 0 0)
        refine bodyPost_ret (v := .tuple #[.agg #[.slice none 0 0], .bool false]) (by have ⟨⟨_, q1⟩, _⟩ := hV3; simp [results, Try.results40, go_sem, q1]) rfl ?_
        exact ⟨none, 0, [], by rw [H1.out, H2.out]; rfl, by rw [H2.out]; exact RowsP.nil _ _, b3⟩
      · have HADD := Lib.hid (iAdd_any w2.heap.size s 1 _ _ HQ2.out (by omega))
        by_cases hp12 : matS xss xss.length < 12
        · obtain ⟨x, rfl⟩ : ∃ x : Nat, p = (x : Int) := ⟨p.toNat, by omega⟩
          have H1 : Hid (gwB xss (x : Int) = true) := by rw [Hid, gwB_iff]; exact ⟨HM.out, by omega, by omega, hp12⟩
          have hxN : x ≤ xss.length := by omega
          have H2 : Hid (gwL xss (x : Int) = if (x : Int) ≤ topI xss then sqM (grAI (atM xss) xss.length x) xss.length xss.length else sqM (grBI (atM xss) xss.length x) (xss.length + 1) (xss.length + 1)) := by rw [Hid, gwL, H1.out, if_pos rfl, Int.toNat_natCast, grL_eq HM.out hxN]
          have H3 : Hid (addB s 1 = true) := by rw [Hid, addB_iff]; omega
          have hs12 : 0 ≤ s ∧ s < 12 := by omega
          have HE := Lib.hid (mx_eta HM.out)
          have HMX := Lib.hid (fun i (hi : i < xss.length) => mxB_len HM.out hi)
          have HNUMB := Lib.hid (fun i j (hi : i < xss.length) (hj : j < xss.length) => mxB_num HM.out hi (j := j) hj)
          have HTL := Lib.hid (fun (h : 0 < xss.length) => topN_lt HM.out h)
          have bq : Below w2.heap.size w2 ((w2.alloc (.cells #[.int .i64 s, .slice va xss.length vc] 112)).setCell ⟨w2.heap.size, 0, none⟩ (.int .i64 (s + 1))) := ((Below.refl _ _).alloc (Nat.le_refl _) _).setCell (p := ⟨w2.heap.size, 0, none⟩) (Nat.le_refl _) _
          have hp3 := (HPP.out.below bq (Nat.le_refl _)).mono (B' := w.heap.size + 2) (by simp)
          have hV3 := HV0.out.below bq
          have hA3 := HA0.out.below bq
          have b3 := HB0.out.trans (bq.mono HB0.out.size)
          have hQ3 := HQ2.out.set0 (.int .i64 (s + 1))
          clear hsS b2' hp12
          go_wp2_with fail
          refine HADD.out.mono ?_
          rintro e w3' ⟨rfl, rfl⟩
          clear cA cV fV zV zA
          rw [addW, H3.out, if_pos rfl]
          generalize hW3 : (w2.alloc (.cells #[.int .i64 s, .slice va xss.length vc] 112)).setCell ⟨w2.heap.size, 0, none⟩ (.int .i64 (s + 1)) = w3 at hp3 hV3 hA3 b3 hQ3 bq ⊢
          clear hW3
          have hz3 : w.heap.size + 2 ≤ w3.heap.size := by have := bq.size; omega
          have HNUM := Lib.hid (numbersOf_any (s + 1) va vc (w.heap.size + 2) vl xss w3 hp3 hz3 (by omega))
          have ⟨⟨zQ3, cQ3, dQ3⟩, fQ3, gQ3⟩ := hQ3
          have ⟨zA3, cA3⟩ := hA3
          have HV3 := Lib.hid hV3
          have HA3 := Lib.hid hA3
          clear hp3 hV3 hA3 hQ3 bq
          go_wp2_with fail
          refine HNUM.out.mono ?_
          rintro e w4 ⟨g, rfl, hro4, hb4⟩
          have b4 := b3.trans (hb4.mono b3.size)
          have hV4 := HV3.out.below hb4
          have hA4 := HA3.out.below hb4
          have ⟨zA4, cA4⟩ := hA4
          have HR4 := Lib.hid hro4
          have HV4 := Lib.hid hV4
          have hz4 : w.heap.size + 2 ≤ w4.heap.size := by have := hb4.size; omega
          clear hb4 hro4 hV4 HNUM cA3 cQ3 dQ3
          go_wp2_with fail
          refine (HTP.out _ (HX.out.below b4)).mono ?_
          rintro e w5 ⟨rfl, hb5⟩
          have b5 := b4.trans (hb5.mono b4.size)
          have hV5 := HV4.out.below hb5
          have hro5 := HR4.out.below hb5 (Nat.le_refl _)
          have hz5 : w.heap.size + 2 ≤ w5.heap.size := by have := hb5.size; omega
          clear hb5
          obtain ⟨N, hN⟩ : ∃ N, N = xss.length := ⟨_, rfl⟩
          have HN := Lib.hid hN
          rw [HE.out, ← hN] at hro5
          rw [← hN] at H2 hxN h12 HMX HNUMB HTL hlen
          obtain ⟨f, hf⟩ : ∃ f, f = atM xss := ⟨_, rfl⟩
          rw [← hf] at hro5 H2 HNUMB
          simp only [sqM_len] at hro5
          have HFF := Lib.hid hf
          by_cases ht : (x : Int) ≤ topI xss
          · rw [if_pos ht] at H2
            have hpos : 0 < N := by
              apply Classical.byContradiction
              intro h
              rw [topI, if_pos (by omega)] at ht
              omega
            rw [topI, if_neg (by omega)] at ht
            have HTB : Hid (topB xss = true) := by simp [Hid, topB, HM.out]; intro h; rw [h] at hN; simp at hN; omega
            have HTV : Hid (topV xss = ((topN xss : Nat) : Int)) := by rw [Hid, topV, HTB.out]; rfl
            rw [HTB.out, HTV.out]
            have htl := HTL.out hpos
            obtain ⟨T, hT⟩ : ∃ T, T = topN xss := ⟨_, rfl⟩
            rw [← hT] at ht htl ⊢
            have hxT : ¬ (T : Int) < (x : Int) := by omega
            have hxN1 : x < N := by omega
            have hN1 : N - 1 < N := by omega
            have hcast : ((N : Int) - 1) = ((N - 1 : Nat) : Int) := by omega
            rw [← hN]
            obtain ⟨g4, e4, hg4, hg5, hc4, hf4⟩ := hro5.outer (k := x) (by rw [sqM_len]; exact hxN1)
            simp only [Option.some.injEq, Addr.mk.injEq, and_true] at e4
            subst e4
            obtain ⟨g6, c6, e6, hg6, hg7, hc6, hf6, hnew⟩ := hro5.num (i := x) (j := N - 1) (by rw [sqM_len]; exact hxN1) (by rw [sqM_rlen hxN1]; omega)
            rw [e6, sqM_rlen hxN1] at hc4
            rw [sqM_at hxN1 hN1] at hc6
            have ⟨hz0, hz9⟩ := HNUMB.out x (N - 1) hxN1 hN1
            have hset := hnew (f x (N - 1) + 1)
            rw [setM_sq hxN1 hN1] at hset
            have b6 := b5.setCell (p := ⟨g6, N - 1, none⟩) (show w.heap.size ≤ g6 by omega) (.int .i64 (f x (N - 1) + 1))
            have hV6 := hV5.other (p := ⟨g6, N - 1, none⟩) (.int .i64 (f x (N - 1) + 1)) (show w.heap.size + 1 ≠ g6 by omega)
            have hset2 : RowsP (w5.setCell ⟨g6, N - 1, none⟩ (.int .i64 (f x (N - 1) + 1))) (w.heap.size + 2) (.slice (some ⟨g, 0, none⟩) N N) vl (sqM (grAI f N x) N N) := hset
            obtain ⟨Z, hZ⟩ : ∃ Z, Z = f x (N - 1) := ⟨_, rfl⟩
            rw [← hZ] at hc6 hset2 b6 hV6 hz0 hz9
            have HS6 := Lib.hid hset2
            have HV6 := Lib.hid hV6
            have ⟨⟨zV6, cV6⟩, fV6⟩ := hV6
            clear hro5 hnew hset hset2 hV6 hV5 e6 hZ hT hf hN
            go_wp2_with fail
            have hV7 := HV6.out.set (.slice (some ⟨g, 0, none⟩) N N)
            have b7 := b6.setCell (p := ⟨w.heap.size + 1, 0, none⟩) (by simp) (.slice (some ⟨g, 0, none⟩) N N)
            refine bodyPost_ret (v := .tuple #[.agg #[.slice (some ⟨g, 0, none⟩) N N], .bool true]) (by have ⟨⟨_, q1⟩, _⟩ := hV7; simp [results, Try.results40, go_sem, q1]) rfl ?_
            exact ⟨some ⟨g, 0, none⟩, N, vl, by rw [H1.out, H2.out, sqM_len], by rw [H2.out, sqM_len]; exact (HS6.out.setBelow (show w.heap.size + 1 < w.heap.size + 2 by omega) _).mono (by omega), b7⟩
          · rw [if_neg ht] at H2
            have HTC : Hid (topB xss = false ∨ topV xss < (x : Int)) := by
              by_cases h0 : xss.length = 0
              · left; simp [topB, h0]
              · right
                rw [topI, if_neg h0] at ht
                rw [topV]
                split
                · omega
                · omega
            have HPUT := Lib.hid (putIn_any g (w.heap.size + 2) N x vl f w5 hro5 hxN hz5 (by omega))
            rw [← hN]
            generalize topB xss = tb at HTC ⊢
            generalize topV xss = tv at HTC ⊢
            have HV5 := Lib.hid hV5
            clear ht hro5 hV5 hf hN
            cases tb
            · clear HTC
              go_wp2_with fail
              refine HPUT.out.mono ?_
              rintro e w6 ⟨g6, c6, ul, rfl, hro6, hb6⟩
              have b6 := b5.trans (hb6.mono (by omega : w.heap.size ≤ w.heap.size + 2))
              have hV6 : Var1 w6 (w.heap.size + 1) (.slice none 0 0) := ⟨⟨by have := hb6.size; omega, (hb6.cell (p := ⟨w.heap.size + 1, 0, none⟩) (show w.heap.size + 1 < w.heap.size + 2 by omega)).trans HV5.out.1.2⟩, (hb6.frozen (p := ⟨w.heap.size + 1, 0, none⟩) (show w.heap.size + 1 < w.heap.size + 2 by omega)).trans HV5.out.2⟩
              have hz : swF (fun a b => wdF (inR f x a) x b) (N+1) x x x N = 0 := by rw [swF, if_neg (Nat.lt_irrefl x)]; simp [wdF, inR]
              have hput := gr_put (f := f) hxN
              obtain ⟨F, hF⟩ : ∃ F, F = swF (fun a b => wdF (inR f x a) x b) (N+1) x x := ⟨_, rfl⟩
              rw [← hF] at hro6 hz hput
              obtain ⟨M, hM⟩ : ∃ M, M = N + 1 := ⟨_, rfl⟩
              have HMM := Lib.hid hM
              rw [← hM] at hro6 hput H2 ⊢
              have hxM : x < M := by omega
              have hNM : N < M := by omega
              have hcast : ((M : Int) - 1) = (N : Int) := by omega
              obtain ⟨g4, e4, hg4, hg5, hc4, hf4⟩ := hro6.outer (k := x) (by rw [sqM_len]; exact hxM)
              simp only [Option.some.injEq, Addr.mk.injEq, and_true] at e4
              subst e4
              obtain ⟨g7, c7, e7, hg7, hg8, hc7, hf7, hnew⟩ := hro6.num (i := x) (j := N) (by rw [sqM_len]; exact hxM) (by rw [sqM_rlen hxM]; exact hNM)
              rw [e7, sqM_rlen hxM] at hc4
              rw [sqM_at hxM hNM, hz] at hc7
              have hset := hnew 1
              rw [hput] at hset
              have b7 := b6.setCell (p := ⟨g7, N, none⟩) (show w.heap.size ≤ g7 by omega) (.int .i64 1)
              have hV7 := hV6.other (p := ⟨g7, N, none⟩) (.int .i64 1) (show w.heap.size + 1 ≠ g7 by omega)
              have HS7 := Lib.hid hset
              have HV7 := Lib.hid hV7
              have ⟨⟨zV7, cV7⟩, fV7⟩ := hV7
              clear hro6 hnew hset hV6 hV7 hb6 e7 hz hput hF hM HPUT
              go_wp2_with fail
              have hV8 := HV7.out.set (.slice (some ⟨g6, 0, none⟩) M c6)
              have b8 := b7.setCell (p := ⟨w.heap.size + 1, 0, none⟩) (by simp) (.slice (some ⟨g6, 0, none⟩) M c6)
              refine bodyPost_ret (v := .tuple #[.agg #[.slice (some ⟨g6, 0, none⟩) M c6], .bool true]) (by have ⟨⟨_, q1⟩, _⟩ := hV8; simp [results, Try.results40, go_sem, q1]) rfl ?_
              exact ⟨some ⟨g6, 0, none⟩, c6, ul, by rw [H1.out, H2.out, sqM_len], by rw [H2.out, sqM_len]; exact (HS7.out.setBelow (show w.heap.size + 1 < w.heap.size + 2 by omega) _).mono (by omega), b8⟩
            · have htv : tv < (x : Int) := by
                rcases HTC.out with h | h
                · cases h
                · exact h
              clear HTC
              go_wp2_with fail
              refine HPUT.out.mono ?_
              rintro e w6 ⟨g6, c6, ul, rfl, hro6, hb6⟩
              have b6 := b5.trans (hb6.mono (by omega : w.heap.size ≤ w.heap.size + 2))
              have hV6 : Var1 w6 (w.heap.size + 1) (.slice none 0 0) := ⟨⟨by have := hb6.size; omega, (hb6.cell (p := ⟨w.heap.size + 1, 0, none⟩) (show w.heap.size + 1 < w.heap.size + 2 by omega)).trans HV5.out.1.2⟩, (hb6.frozen (p := ⟨w.heap.size + 1, 0, none⟩) (show w.heap.size + 1 < w.heap.size + 2 by omega)).trans HV5.out.2⟩
              have hz : swF (fun a b => wdF (inR f x a) x b) (N+1) x x x N = 0 := by rw [swF, if_neg (Nat.lt_irrefl x)]; simp [wdF, inR]
              have hput := gr_put (f := f) hxN
              obtain ⟨F, hF⟩ : ∃ F, F = swF (fun a b => wdF (inR f x a) x b) (N+1) x x := ⟨_, rfl⟩
              rw [← hF] at hro6 hz hput
              obtain ⟨M, hM⟩ : ∃ M, M = N + 1 := ⟨_, rfl⟩
              have HMM := Lib.hid hM
              rw [← hM] at hro6 hput H2 ⊢
              have hxM : x < M := by omega
              have hNM : N < M := by omega
              have hcast : ((M : Int) - 1) = (N : Int) := by omega
              obtain ⟨g4, e4, hg4, hg5, hc4, hf4⟩ := hro6.outer (k := x) (by rw [sqM_len]; exact hxM)
              simp only [Option.some.injEq, Addr.mk.injEq, and_true] at e4
              subst e4
              obtain ⟨g7, c7, e7, hg7, hg8, hc7, hf7, hnew⟩ := hro6.num (i := x) (j := N) (by rw [sqM_len]; exact hxM) (by rw [sqM_rlen hxM]; exact hNM)
              rw [e7, sqM_rlen hxM] at hc4
              rw [sqM_at hxM hNM, hz] at hc7
              have hset := hnew 1
              rw [hput] at hset
              have b7 := b6.setCell (p := ⟨g7, N, none⟩) (show w.heap.size ≤ g7 by omega) (.int .i64 1)
              have hV7 := hV6.other (p := ⟨g7, N, none⟩) (.int .i64 1) (show w.heap.size + 1 ≠ g7 by omega)
              have HS7 := Lib.hid hset
              have HV7 := Lib.hid hV7
              have ⟨⟨zV7, cV7⟩, fV7⟩ := hV7
              clear hro6 hnew hset hV6 hV7 hb6 e7 hz hput hF hM HPUT
              go_wp2_with fail
              have hV8 := HV7.out.set (.slice (some ⟨g6, 0, none⟩) M c6)
              have b8 := b7.setCell (p := ⟨w.heap.size + 1, 0, none⟩) (by simp) (.slice (some ⟨g6, 0, none⟩) M c6)
              refine bodyPost_ret (v := .tuple #[.agg #[.slice (some ⟨g6, 0, none⟩) M c6], .bool true]) (by have ⟨⟨_, q1⟩, _⟩ := hV8; simp [results, Try.results40, go_sem, q1]) rfl ?_
              exact ⟨some ⟨g6, 0, none⟩, c6, ul, by rw [H1.out, H2.out, sqM_len], by rw [H2.out, sqM_len]; exact (HS7.out.setBelow (show w.heap.size + 1 < w.heap.size + 2 by omega) _).mono (by omega), b8⟩
        · have H1 : Hid (gwB xss p = false) := by rw [Hid, ← Bool.not_eq_true, gwB_iff]; omega
          have H2 : Hid (gwL xss p = []) := by rw [Hid, gwL, H1.out]; rfl
          have H3 : Hid (addB s 1 = false) := by rw [Hid, ← Bool.not_eq_true, addB_iff]; omega
          clear hsS
          go_wp2_with fail
          refine HADD.out.mono ?_
          rintro e w3 ⟨rfl, rfl⟩
          rw [addW, H3.out, if_neg (by simp)]
          go_wp2_with fail
          have hV3 := HV2.out.set (.slice none 0 0)
          have b3 := b2'.setCell (p := ⟨w.heap.size + 1, 0, none⟩) (by simp) (.slice none 0 0)
          refine bodyPost_ret (v := .tuple #[.agg #[.slice none 0 0], .bool false]) (by have ⟨⟨_, q1⟩, _⟩ := hV3; simp [results, Try.results40, go_sem, q1]) rfl ?_
          exact ⟨none, 0, [], by rw [H1.out, H2.out]; rfl, by rw [H2.out]; exact RowsP.nil _ _, b3⟩

set_option maxRecDepth 100000 in
set_option maxHeartbeats 1000000 in
theorem iMOA_any (a : Option Addr) (xs : List Int) (cap : Nat) (w : World) (hx : Rd w a xs) (_hcap : xs.length ≤ cap) :
    Calls Try.prog 53 #[.slice a xs.length cap] w fun e w' => ∃ a0 c0 vl, e = .returned (.tuple #[.agg #[.slice a0 (moaL xs).length c0], .bool (ascB xs)]) ∧ RowsP w' w.heap.size (.slice a0 (moaL xs).length c0) vl (moaL xs) ∧ Below w.heap.size w w' := by
  have hlen := hx.len
  have hV := Var1.new w (.slice none 0 0) 60
  have hb0 : Below w.heap.size w (w.alloc (.cells #[.slice none 0 0] 60)) := (by repeat (first | exact Below.refl _ _ | assumption | refine Below.alloc ?_ (by first | exact Nat.le_refl _ | (simp only [World.size_alloc, World.size_setCell, World.size_drew]; omega) | omega) _ | refine Below.setCell ?_ (by first | exact Nat.le_refl _ | (simp only [World.size_alloc, World.size_setCell, World.size_drew]; omega) | omega) _ | refine Below.drew ?_))
  cases hm : ascB xs
  · have HM := Lib.hid hm
    have H1 : Hid (moaL xs = []) := by simp [Hid, moaL, hm]
    clear hm
    go_enter Try.func53, Try.ntmps53
    go_wp2_with fail
    refine (iIsAscent_any _ _ _ _ (hx.below hb0)).mono ?_
    rintro e w1 ⟨rfl, hb⟩
    rw [HM.out]
    have b1 : Below w.heap.size w w1 := hb0.trans (hb.mono (by simp))
    have hV1 := hV.below hb
    have ⟨⟨zV, cV⟩, fV⟩ := hV1
    clear hb hV
    go_wp2_with fail
    have hV3 := hV1.set (.slice none 0 0)
    have b3 := b1.setCell (p := ⟨w.heap.size, 0, none⟩) (by simp) (.slice none 0 0)
    refine bodyPost_ret (v := .tuple #[.agg #[.slice none 0 0], .bool false]) (by have ⟨⟨_, q1⟩, _⟩ := hV3; simp [results, Try.results53, go_sem, q1]) rfl ?_
    exact ⟨none, 0, [], by rw [H1.out]; rfl, by rw [H1.out]; exact RowsP.nil _ _, b3⟩
  · have HM := Lib.hid hm
    have H1 : Hid (moaL xs = moK xs xs.length) := by simp [Hid, moaL, hm]
    have HX := Lib.hid hx
    have h12 := (ascB_iff.1 hm).1
    have HNX := Lib.hid (fun k (hk : k < xs.length) => moK_next hm hk)
    have HGB := Lib.hid (fun k (hk : k < xs.length) => moK_gw hm hk)
    have HSZ := Lib.hid (fun k (hk : k ≤ xs.length) => moK_size hm hk)
    have HNB := Lib.hid (fun k (hk : k < xs.length) => ascB_small hm hk)
    clear hm
    go_enter Try.func53, Try.ntmps53
    go_wp2_with fail
    refine (iIsAscent_any _ _ _ _ (hx.below hb0)).mono ?_
    rintro e w1 ⟨rfl, hb⟩
    rw [HM.out]
    have b1 : Below w.heap.size w w1 := hb0.trans (hb.mono (by simp))
    have hz1 : w.heap.size + 1 ≤ w1.heap.size := by have := hb.size; simpa using this
    have bb1 : Below w1.heap.size w1 (w1.alloc (.cells #[.slice none 0 0] 60)) := (by repeat (first | exact Below.refl _ _ | assumption | refine Below.alloc ?_ (by first | exact Nat.le_refl _ | (simp only [World.size_alloc, World.size_setCell, World.size_drew]; omega) | omega) _ | refine Below.setCell ?_ (by first | exact Nat.le_refl _ | (simp only [World.size_alloc, World.size_setCell, World.size_drew]; omega) | omega) _ | refine Below.drew ?_))
    have HV1 := Lib.hid ((hV.below hb).below bb1)
    have HO1 := Lib.hid (Var1.new w1 (.slice none 0 0) 60)
    have HB1 := Lib.hid (b1.trans (bb1.mono b1.size))
    obtain ⟨b4, hb4⟩ : ∃ b4, b4 = w1.heap.size := ⟨_, rfl⟩
    have HB4 := Lib.hid hb4
    have hz4 : w.heap.size + 1 ≤ b4 := by omega
    rw [← hb4] at HO1
    obtain ⟨N, hN⟩ : ∃ N, N = xs.length := ⟨_, rfl⟩
    have HN := Lib.hid hN
    rw [← hN] at hlen H1 h12 HNX HGB HSZ HNB ⊢
    clear hb hV bb1 hx b1 hb4 hN
    go_wp2_with fail
    go_loopw [13] (fun i wr => ∃ (k : Nat) (v : Value) (vl : List Value), k ≤ N ∧ i = .int .i64 k ∧ Var1 wr b4 v ∧ RowsP wr (b4 + 1) v vl (moK xs k) ∧ Var1 wr w.heap.size (.slice none 0 0) ∧ Below w.heap.size w wr) (fun i _ => N - (intOf i).toNat)
    case atStart => exact ⟨0, .slice none 0 0, [], Nat.zero_le _, rfl, HO1.out, RowsP.nil _ _, HV1.out, HB1.out⟩
    case round =>
      rw [← HB4.out]
      obtain ⟨k, v, vl, hk, rfl, hO, hro, hV, hb⟩ := hrel
      have hbs := hb.size
      have hO9 := hO.1.1
      obtain ⟨av, cv, ev⟩ := hro.o.form
      subst ev
      have ⟨⟨zO, cO⟩, fO⟩ := hO
      by_cases hlt : k < N
      · have k1 : (k : Int) < (N : Int) := by omega
        obtain ⟨b, off, rfl, hbl, hc⟩ := (HX.out.below hb).cell k (by rw [← HN.out]; exact hlt)
        have hnb := HNB.out k hlt
        have HG := Lib.hid (iGrow_any av (moK xs k) cv (nth xs k) wr hro.rdC (HSZ.out k hk) (by omega))
        rw [HGB.out k hlt, HNX.out k hlt] at HG
        have HV := Lib.hid hV
        have HO := Lib.hid hO
        obtain ⟨x, hxx⟩ : ∃ x, x = nth xs k := ⟨_, rfl⟩
        rw [← hxx] at HG hc hnb
        obtain ⟨L, hL⟩ : ∃ L, L = (moK xs (k+1)).length := ⟨_, rfl⟩
        have HL := Lib.hid hL
        rw [← hL] at HG
        generalize (moK xs k).length = L0 at HG cO ⊢
        clear hro hV hO hxx hL
        go_wp2_with fail
        refine HG.out.mono ?_
        rintro e w2 ⟨a2, c2, ul, rfl, hro2, hb2⟩
        have hO2 := HO.out.below hb2
        have hV2 := HV.out.below hb2
        have b2 := hb.trans (hb2.mono hbs)
        have ⟨⟨zO2, cO2⟩, fO2⟩ := hO2
        have hs2 := hb2.size
        have hO3 := hO2.set (.slice a2 L c2)
        have hV3 := hV2.other (p := ⟨b4, 0, none⟩) (.slice a2 L c2) (show w.heap.size ≠ b4 by omega)
        have hro3 := (hro2.setBelow (p := ⟨b4, 0, none⟩) hO9 (.slice a2 L c2)).mono (B' := b4 + 1) (by omega)
        have b3 := b2.setCell (p := ⟨b4, 0, none⟩) (show w.heap.size ≤ b4 by omega) (.slice a2 L c2)
        have H6 := Lib.hid (And.intro hO3 (And.intro hro3 (And.intro hV3 b3)))
        clear hro2 hO2 hV2 hO3 hV3 hro3 b3 hb2
        go_wp2_with fail
        go_roundw
        case rel => exact ⟨k + 1, _, _, by omega, by go_num, H6.out.1, H6.out.2.1, H6.out.2.2.1, H6.out.2.2.2⟩
        case measure => simp [intOf]; omega
      · obtain rfl : k = N := by omega
        have ⟨⟨zV, cV⟩, fV⟩ := hV
        obtain ⟨L, hL⟩ : ∃ L, L = (moK xs k).length := ⟨_, rfl⟩
        have HL := Lib.hid hL
        rw [← hL] at hro cO
        have HRO := Lib.hid hro
        have HV := Lib.hid hV
        clear hro hO hV hL
        go_wp2_with fail
        have hV2 := HV.out.set (.slice av L cv)
        have b2 := hb.setCell (p := ⟨w.heap.size, 0, none⟩) (by simp) (.slice av L cv)
        refine bodyPost_ret (v := .tuple #[.agg #[.slice av L cv], .bool true]) (by have ⟨⟨_, q1⟩, _⟩ := hV2; simp [results, Try.results53, go_sem, q1]) rfl ?_
        exact ⟨av, cv, vl, by rw [H1.out, HL.out], by rw [H1.out, ← HL.out]; exact (HRO.out.setBelow (show w.heap.size < b4 + 1 by omega) _).mono (by omega), b2⟩

set_option maxRecDepth 100000 in
set_option maxHeartbeats 8000000 in
theorem walk (a0 : Option Addr) (n0 cap0 : Nat) (a1 : Option Addr) (n1 cap1 : Nat) (w : World) (hR0 : RdB w a0 n0) (hl0 : n0 ≤ 9223372036854775807) (hR1 : RdB w a1 n1) (hl1 : n1 ≤ 9223372036854775807) :
    Calls Try.prog 7 #[.slice a0 n0 cap0, .slice a1 n1 cap1] w fun e w' => e = .returned (.bool true) ∧ Below w.heap.size w w' := by
  go_enter Try.func7, Try.ntmps7
  go_wp2_with fail
  refine (big_any _ _ _ _ _ _ _ hl0 hl1).mono ?_
  rintro e w' ⟨he, rfl⟩
  rcases he with rfl | ⟨rfl, hb0, hb1⟩
  · go_wp2_with fail
    go_ret
    exact ⟨rfl, (by repeat (first | exact Below.refl _ _ | assumption | refine Below.alloc ?_ (by first | exact Nat.le_refl _ | (simp only [World.size_alloc, World.size_setCell, World.size_drew]; omega) | omega) _ | refine Below.setCell ?_ (by first | exact Nat.le_refl _ | (simp only [World.size_alloc, World.size_setCell, World.size_drew]; omega) | omega) _ | refine Below.drew ?_))⟩
  · go_wp2_with fail
    refine (drMerge_any _ _ _ _ hR0 hb0).mono ?_
    rintro e w1 ⟨a, cap, xs, rfl, ho, hl, hx, hb⟩
    have hcp := ho.capLe
    have HB := Lib.hid hb
    have HR := Lib.hid ho.rd
    clear hx ho hb hR0 hR1 hl0 hl1 hb0
    obtain ⟨M, hM⟩ : ∃ M, M = mgL xs := ⟨_, rfl⟩
    obtain ⟨L, hL⟩ : ∃ L, L = lnL xs := ⟨_, rfl⟩
    obtain ⟨F, hF⟩ : ∃ F, F = ascB xs := ⟨_, rfl⟩
    have HIM := Lib.hid (fun W (h : Rd W a xs) => iMerge_any a xs cap W h hcp)
    have HSM := Lib.hid (fun W (h : Rd W a xs) => sMerge_any a xs cap W h hcp)
    unfold TwoI at HIM HSM
    rw [← hM, ← hL, ← hF] at HIM HSM
    have HEQ : Hid (∀ l : List Int, eqL l l = true) := fun l => by simp [eqL]
    have q1 : (F != F) = false := by simp
    have HME := Lib.hid hM
    have HLE := Lib.hid hL
    have HFE := Lib.hid hF
    clear hM hL hF
    go_wp2_with fail
    refine (HIM.out _ HR.out).mono ?_
    rintro e w3 ⟨a3, c3, d3, e3, rfl, ho3, hq3, hs3, hb3⟩
    replace HB := Lib.hid (HB.out.trans (hb3.mono HB.out.size))
    replace HR := Lib.hid (HR.out.below hb3)
    clear hb3
    have HC := Lib.hid ho3.rd
    have HD := Lib.hid hq3.rd
    have hcp3 := ho3.capLe
    clear ho3 hq3 hs3
    go_wp2_with fail
    refine (HSM.out _ HR.out).mono ?_
    rintro e w4 ⟨a4, c4, d4, e4, rfl, ho4, hq4, hs4, hb4⟩
    replace HB := Lib.hid (HB.out.trans (hb4.mono HB.out.size))
    replace HR := Lib.hid (HR.out.below hb4)
    replace HC := Lib.hid (HC.out.below hb4)
    replace HD := Lib.hid (HD.out.below hb4)
    clear hb4
    have HU := Lib.hid ho4.rd
    have HV := Lib.hid hq4.rd
    clear ho4 hq4 hs4 HIM HSM
    go_wp2_with fail
    refine ((pSame_any a3 a4 M M c3 c4 _ HC.out HU.out)).mono ?_
    rw [HEQ.out]
    rintro e w5 ⟨rfl, hb5⟩
    replace HB := Lib.hid (HB.out.trans (hb5.mono HB.out.size))
    replace HR := Lib.hid (HR.out.below hb5)
    replace HC := Lib.hid (HC.out.below hb5)
    replace HD := Lib.hid (HD.out.below hb5)
    replace HU := Lib.hid (HU.out.below hb5)
    replace HV := Lib.hid (HV.out.below hb5)
    clear hb5
    go_wp2_with fail
    refine ((pSame_any d3 d4 L L e3 e4 _ HD.out HV.out)).mono ?_
    rw [HEQ.out]
    rintro e w6 ⟨rfl, hb6⟩
    replace HB := Lib.hid (HB.out.trans (hb6.mono HB.out.size))
    replace HR := Lib.hid (HR.out.below hb6)
    replace HC := Lib.hid (HC.out.below hb6)
    replace HD := Lib.hid (HD.out.below hb6)
    replace HU := Lib.hid (HU.out.below hb6)
    replace HV := Lib.hid (HV.out.below hb6)
    clear hb6
    clear HU HV
    cases hFF : F
    · go_wp2_with fail
      go_ret
      exact ⟨rfl, HB.out⟩
    · have hA : ascB xs = true := by rw [← HFE.out]; exact hFF
      have h12 := (ascB_iff.1 hA).1
      have hM2 : M = mgTo xs xs.length := by rw [HME.out, mgL, if_pos hA]
      have hL2 : L = lnTo xs xs.length := by rw [HLE.out, lnL, if_pos hA]
      have hAM : ascB M = true := by rw [hM2]; exact mg_good hA
      have hml : M.length = L.length := by rw [hM2, hL2]; exact mgTo_len _ _
      have hll : L.length ≤ xs.length := by rw [hL2]; exact lnTo_le _ _
      have hac : aoN M = aoN xs := by rw [aoN, aoN, if_pos hA, if_pos hAM, hM2, mg_asc]
      have hsum : totR L = (xs.length : Int) := by rw [hL2]; exact ln_sum _ _
      have hlv : ∀ j, j < L.length → 0 ≤ nth L j ∧ nth L j ≤ 1000 := fun j hj => by
        rw [hL2] at hj ⊢
        have := lnTo_val xs xs.length _ (nth_mem (xs := lnTo xs xs.length) (k := j) hj)
        omega
      have hrn : ∀ j, j < L.length → ∃ r : Nat, nth L j = (r : Int) ∧ r ≤ 12 ∧ (totI L (j+1)).toNat = (totI L j).toNat + r ∧ ∀ i, i < r → (totI L j).toNat + i < xs.length ∧ nth xs ((totI L j).toNat + i) = nth M j := fun j hj => by
        rw [hL2] at hj ⊢
        rw [hM2]
        obtain ⟨r, h1, h2, h3, h4⟩ := runs_here xs xs.length j hj
        exact ⟨r, h1, by omega, h3, h4⟩
      have hap : ∀ j, 0 < j → j < L.length → (nth M (j-1) == nth M j) = false := fun j h0 hj => by
        rw [hM2]
        rw [hL2, ← mgTo_len] at hj
        simpa using mg_apart xs xs.length j h0 hj
      have hrw := mg_rows hA
      rw [← hM2] at hrw
      have hmx : mxB (moK M M.length) = true := (moK_ok hAM (Nat.le_refl _)).1
      have hsz := moK_size hAM (k := M.length) (Nat.le_refl _)
      have HAS : Hid (∀ W, Rd W a xs → Calls Try.prog 37 #[.slice a xs.length cap] W fun e w' => e = .returned (.tuple #[.int .i64 (aoN xs), .bool true]) ∧ Below W.heap.size W w') := fun W h => by
        have := iAscentsOf_any a xs cap W h
        rw [hA] at this
        exact this
      have HAM : Hid (∀ W, Rd W a3 M → Calls Try.prog 37 #[.slice a3 M.length c3] W fun e w' => e = .returned (.tuple #[.int .i64 (aoN xs), .bool true]) ∧ Below W.heap.size W w') := fun W h => by
        have := iAscentsOf_any a3 M c3 W h
        rw [hAM, hac] at this
        exact this
      have HPS : Hid (∀ W, Rd W d3 L → Calls Try.prog 52 #[.slice d3 L.length e3] W fun e w' => e = .returned (.int .i64 (xs.length : Int)) ∧ Below W.heap.size W w') := fun W h => by
        have := pSum_any d3 L L.length e3 W h rfl (by omega) hlv
        rw [hsum] at this
        exact this
      have HMA : Hid (∀ W, Rd W a xs → Calls Try.prog 53 #[.slice a xs.length cap] W fun e w' => ∃ a0 c0 vl, e = .returned (.tuple #[.agg #[.slice a0 (moK xs xs.length).length c0], .bool true]) ∧ RowsP w' W.heap.size (.slice a0 (moK xs xs.length).length c0) vl (moK xs xs.length) ∧ Below W.heap.size W w') := fun W h => by
        have := iMOA_any a xs cap W h hcp
        rw [moaL, hA, if_pos rfl] at this
        exact this
      have HMB : Hid (∀ W, Rd W a3 M → Calls Try.prog 53 #[.slice a3 M.length c3] W fun e w' => ∃ a0 c0 vl, e = .returned (.tuple #[.agg #[.slice a0 (moK M M.length).length c0], .bool true]) ∧ RowsP w' W.heap.size (.slice a0 (moK M M.length).length c0) vl (moK M M.length) ∧ Below W.heap.size W w') := fun W h => by
        have := iMOA_any a3 M c3 W h hcp3
        rw [moaL, hAM, if_pos rfl] at this
        exact this
      have HMX : Hid (∀ W a' c', RdC W a' (moK M M.length) → Calls Try.prog 48 #[.agg #[.slice a' (moK M M.length).length c']] W fun e w' => e = .returned (.bool true) ∧ Below W.heap.size W w') := fun W a' c' h => by
        have := iIsMatrix_any a' (moK M M.length) c' W h hsz
        rw [hmx] at this
        exact this
      generalize aoN xs = asc at HAS HAM
      have hao : (asc != asc) = false := by simp
      have HRN := Lib.hid hrn
      have HAP := Lib.hid hap
      have HML := Lib.hid hml
      have hm12 : L.length ≤ 12 := by omega
      rw [hrw] at HMB HMX
      generalize moK xs xs.length = mA at HMA HMB HMX
      generalize moK M M.length = mB at HMB HMX
      have HT0 : Hid ((totI L 0).toNat = 0) := rfl
      obtain ⟨T, hT⟩ : ∃ T : Nat → Nat, T = fun j => (totI L j).toNat := ⟨_, rfl⟩
      have HT : Hid (T 0 = 0) := by rw [hT]; exact HT0.out
      have HRT : Hid (∀ j, j < L.length → ∃ r : Nat, nth L j = (r : Int) ∧ r ≤ 12 ∧ T (j+1) = T j + r ∧ ∀ i, i < r → T j + i < xs.length ∧ nth xs (T j + i) = nth M j) := by rw [hT]; exact hrn
      clear hA hM2 hL2 hAM hll hac hsum hlv hrn hap hrw hmx hsz HME HLE HFE hFF q1 HT0 hT HRN
      have hn1 : ((xs.length : Int) != (xs.length : Int)) = false := by simp
      have hn2 : ((M.length : Int) != (L.length : Int)) = false := by simp [hml]
      clear hml
      go_wp2_with fail
      refine (HAS.out _ HR.out).mono ?_
      rintro e w7 ⟨rfl, hb7⟩
      replace HB := Lib.hid (HB.out.trans (hb7.mono HB.out.size))
      replace HR := Lib.hid (HR.out.below hb7)
      replace HC := Lib.hid (HC.out.below hb7)
      replace HD := Lib.hid (HD.out.below hb7)
      clear hb7
      go_wp2_with fail
      refine (HAM.out _ HC.out).mono ?_
      rintro e w8 ⟨rfl, hb8⟩
      replace HB := Lib.hid (HB.out.trans (hb8.mono HB.out.size))
      replace HR := Lib.hid (HR.out.below hb8)
      replace HC := Lib.hid (HC.out.below hb8)
      replace HD := Lib.hid (HD.out.below hb8)
      clear hb8
      clear HAS HAM
      go_wp2_with fail
      refine (HPS.out _ HD.out).mono ?_
      rintro e w9 ⟨rfl, hb9⟩
      replace HB := Lib.hid (HB.out.trans (hb9.mono HB.out.size))
      replace HR := Lib.hid (HR.out.below hb9)
      replace HC := Lib.hid (HC.out.below hb9)
      replace HD := Lib.hid (HD.out.below hb9)
      clear hb9
      clear HPS
      go_wp2_with fail
      have HBB := HB
      have HRR := HR
      have HCC := HC
      have HDD := HD
      go_loopw [16, 95] (fun t i wr => ∃ k : Nat, k ≤ L.length ∧ i = .int .i64 k ∧ t = .int .i64 ((T k : Nat) : Int) ∧ Below w9.heap.size w9 wr) (fun _ i _ => L.length - (intOf i).toNat)
      case atStart => exact ⟨0, Nat.zero_le _, rfl, by rw [HT.out]; rfl, Below.refl _ _⟩
      case round =>
        obtain ⟨k, hk, rfl, rfl, hb⟩ := hrel
        have HB9 := Lib.hid hb
        obtain ⟨W9, hW9⟩ : ∃ x : World, x = wr := ⟨_, rfl⟩
        subst hW9
        have hmL := HML.out
        by_cases hlt : k < L.length
        · have k1 : (k : Int) < (M.length : Int) := by omega
          obtain ⟨r, hr, hr12, hTs, hin⟩ := HRT.out k hlt
          obtain ⟨b1, o1, rfl, hb1, hc1⟩ := (HCC.out.below hb).cell k (by omega)
          have HCx := Lib.hid (HCC.out.below hb)
          have HTS := Lib.hid hTs
          have HIN := Lib.hid hin
          have HRK := Lib.hid hr
          obtain ⟨x, hx⟩ : ∃ x, x = nth M k := ⟨_, rfl⟩
          rw [← hx] at hc1 HIN
          have HXE := Lib.hid hx
          clear hTs hin hr hb hx hmL
          by_cases h0 : 0 < k
          case' pos =>
            have h01 : (0 : Int) < (k : Int) := by omega
            obtain ⟨b2, o2, e2, hb2, hc2⟩ := HCx.out.cell (k - 1) (by have := HML.out; omega)
            simp only [Option.some.injEq, Addr.mk.injEq, and_true] at e2
            obtain ⟨rfl, rfl⟩ := e2
            have hap := HAP.out k h0 hlt
            rw [← HXE.out] at hap
            generalize nth M (k - 1) = y at hc2 hap
            have hkk : (k : Int) - 1 = ((k - 1 : Nat) : Int) := by omega
            have HKK := Lib.hid hkk
            clear hkk
            go_wp2_with fail
            clear HKK hap hc2
          case' neg =>
            have h01 : ¬ (0 : Int) < (k : Int) := by omega
            go_wp2_with fail
          all_goals
            go_loopw [16, 19] (fun t i wr => ∃ j : Nat, j ≤ r ∧ i = .int .i64 j ∧ t = .int .i64 ((T k + j : Nat) : Int) ∧ Below w9.heap.size w9 wr) (fun _ i _ => r - (intOf i).toNat)
            case atStart => exact ⟨0, Nat.zero_le _, rfl, rfl, HB9.out⟩
            case round =>
              obtain ⟨j, hj, rfl, rfl, hb⟩ := hrel
              have HJ := Lib.hid hb
              obtain ⟨b3, o3, rfl, hb3, hc3⟩ := (HDD.out.below hb).cell k hlt
              rw [HRK.out] at hc3
              have hkL : (k : Int) < (L.length : Int) := by omega
              by_cases hjr : j < r
              · have j1 : (j : Int) < (r : Int) := by omega
                have ⟨hi1, hi2⟩ := HIN.out j hjr
                obtain ⟨b4, o4, rfl, hb4, hc4⟩ := (HRR.out.below hb).cell (T k + j) hi1
                rw [hi2] at hc4
                have hxx : (x != x) = false := by simp
                have hi3 : ((T k + j : Nat) : Int) < (xs.length : Int) := by omega
                have hi4 : T k + j ≤ 12 := by omega
                clear hi2 hb hi1
                obtain ⟨q, hq⟩ : ∃ q, q = T k + j := ⟨_, rfl⟩
                rw [← hq] at hc4 hi3 hi4 ⊢
                have HQ := Lib.hid hq
                clear hq
                go_wp2_with fail
                go_roundw
                case rel => exact ⟨j + 1, by omega, by go_num, val_int (by rw [← Nat.add_assoc, ← HQ.out]; rfl), HJ.out⟩
                case measure => simp [intOf]; omega
              · obtain rfl : j = r := by omega
                have hjj : ¬ (j : Int) < (j : Int) := by omega
                clear hb
                go_wp2_with fail
                go_roundw
                case rel => exact ⟨k + 1, by omega, by go_num, val_int (by rw [HTS.out]), HJ.out⟩
                case measure => simp [intOf]; omega
        · have HB9b := HB9
          have hkm : ¬ (k : Int) < (M.length : Int) := by omega
          clear hb hmL
          have HRz := Lib.hid (HRR.out.below HB9.out)
          have HCz := Lib.hid (HCC.out.below HB9.out)
          have HBz := Lib.hid (HBB.out.trans (HB9.out.mono HBB.out.size))
          replace HB := HBz
          replace HR := HRz
          replace HC := HCz
          clear HBz HRz HCz HBB HRR HCC HDD HD HRT HAP HT HML
          go_wp2_with fail
          refine (HMA.out _ HR.out).mono ?_
          rintro e w20 ⟨a20, c20, l20, rfl, ho20, hb20⟩
          replace HB := Lib.hid (HB.out.trans (hb20.mono HB.out.size))
          replace HR := Lib.hid (HR.out.below hb20)
          replace HC := Lib.hid (HC.out.below hb20)
          clear hb20
          have HU := Lib.hid ho20.rdC
          clear ho20
          have ba20 : Below w20.heap.size w20 (w20.alloc (.cells #[.slice a20 mA.length c20] 60)) := (Below.refl _ _).alloc (Nat.le_refl _) _
          have HX := Lib.hid (Box1.new w20 (.slice a20 mA.length c20) 60)
          replace HB := Lib.hid (HB.out.trans (ba20.mono HB.out.size))
          replace HR := Lib.hid (HR.out.below ba20)
          replace HC := Lib.hid (HC.out.below ba20)
          obtain ⟨v20, hv20⟩ : ∃ x : World, x = w20.alloc (.cells #[.slice a20 mA.length c20] 60) := ⟨_, rfl⟩
          have HV20 := Lib.hid hv20
          rw [← hv20] at HX HB HR HC
          clear ba20 hv20
          have cX := HX.out.2
          go_wp2_with fail
          rw [← HV20.out]
          clear cX
          have ⟨zX, cX⟩ := HX.out
          refine (HMB.out _ HC.out).mono ?_
          rintro e w21 ⟨a21, c21, l21, rfl, ho21, hb21⟩
          try clear zX cX
          replace HB := Lib.hid (HB.out.trans (hb21.mono HB.out.size))
          replace HX := Lib.hid (HX.out.below hb21)
          replace HR := Lib.hid (HR.out.below hb21)
          replace HC := Lib.hid (HC.out.below hb21)
          have ⟨zX, cX⟩ := HX.out
          clear hb21
          have HV := Lib.hid ho21.rdC
          clear ho21
          have hmm : ((mA.length : Int) != (mA.length : Int)) = false := by simp
          have ba21 : Below w21.heap.size w21 (w21.alloc (.cells #[.slice a21 mA.length c21] 60)) := (Below.refl _ _).alloc (Nat.le_refl _) _
          have HY := Lib.hid (Box1.new w21 (.slice a21 mA.length c21) 60)
          replace HB := Lib.hid (HB.out.trans (ba21.mono HB.out.size))
          replace HX := Lib.hid (HX.out.below ba21)
          replace HR := Lib.hid (HR.out.below ba21)
          replace HC := Lib.hid (HC.out.below ba21)
          replace HV := Lib.hid (HV.out.below ba21)
          obtain ⟨v21, hv21⟩ : ∃ x : World, x = w21.alloc (.cells #[.slice a21 mA.length c21] 60) := ⟨_, rfl⟩
          have HV21 := Lib.hid hv21
          rw [← hv21] at HY HB HX HR HC HV
          clear ba21 hv21
          have cY := HY.out.2
          go_wp2_with fail
          rw [← HV21.out]
          try clear zX cX
          clear cY
          have ⟨zX, cX⟩ := HX.out
          have ⟨zY, cY⟩ := HY.out
          refine (HMX.out _ _ _ HV.out).mono ?_
          rintro e w22 ⟨rfl, hb22⟩
          try clear zX cX
          try clear zY cY
          replace HB := Lib.hid (HB.out.trans (hb22.mono HB.out.size))
          replace HX := Lib.hid (HX.out.below hb22)
          replace HY := Lib.hid (HY.out.below hb22)
          replace HR := Lib.hid (HR.out.below hb22)
          replace HC := Lib.hid (HC.out.below hb22)
          replace HV := Lib.hid (HV.out.below hb22)
          have ⟨zX, cX⟩ := HX.out
          have ⟨zY, cY⟩ := HY.out
          clear hb22
          go_wp2_with fail
          go_ret
          exact ⟨rfl, HB.out⟩

theorem rd_of_trod {H : Type} {enc : TypeId × Value → H} {W : World} {fuel : Nat} {c : Value} {y : DataW H × List MemPlace}
    (h : DataW.trod enc Try.prog W 0 (fun _ => true) true fuel 26 [c] = some y) : ∃ (a : Option Addr) (xs : List Int) (cap : Nat), c = .slice a xs.length cap ∧ Rd W a xs ∧ ∀ k, k < xs.length → (Lit.int .i64 (nth xs k)).wf = true := by
  rcases Go.ChangeShapes.open_ints Try.underlying26 Try.underlying3 (by kernel_rfl) h with ⟨hcs, _⟩ | ⟨x, len, cap, zs, hcs, _, hl, hm, hz, _, hcell, hwf⟩
  · simp only [List.cons.injEq, and_true] at hcs
    exact ⟨none, [], 0, hcs, ⟨by simp, fun k hk => by simp at hk⟩, fun k hk => by simp at hk⟩
  · simp only [List.cons.injEq, and_true] at hcs
    simp only [if_true] at hz
    have hlen : (zs.take len).length = len := by rw [List.length_take]; omega
    have hn : ∀ k, k < len → nth (zs.take len) k = zs.getD k 0 := by
      intro k hk
      simp only [nth, List.getD_eq_getElem?_getD, List.getElem?_take, hk, if_true]
    refine ⟨some x, zs.take len, cap, by rw [hlen]; exact hcs, ⟨by rw [hlen]; unfold maxLen at hm; omega, fun k hk => ?_⟩, fun k hk => ?_⟩
    · rw [hlen] at hk
      obtain ⟨b, off, sp⟩ := x
      have h0 := hcell 0 (by omega)
      have hsp : sp = none := by simpa [Addr.add] using World.cell?_spot h0
      subst hsp
      have hk' := hcell k (by omega)
      rw [Addr.add_lit] at hk'
      exact ⟨b, off, rfl, World.block_lt_of_cell? _ _ h0, by rw [hk', hn k hk]⟩
    · rw [hlen] at hk
      rw [hn k hk]
      have hk2 : k < zs.length := by omega
      exact hwf _ (by rw [List.getD_eq_getElem?_getD, List.getElem?_eq_getElem hk2]; exact List.getElem_mem hk2)

theorem own : ownKnob Try.prog.godebug = none := by kernel_rfl
theorem laidOut : laidOutB Try.prog = true := by kernel_rfl
theorem wf_bd {n : Int} (h : (Lit.int .i64 n).wf = true) : -9223372036854775808 ≤ n ∧ n ≤ 9223372036854775807 := by
  simp [Lit.wf, IntKind.min, IntKind.max, IntKind.bits, IntKind.signed] at h
  omega

theorem wf_byte {n : Int} (h : (Lit.int .u8 n).wf = true) : 0 ≤ n ∧ n ≤ 255 := by
  simp [Lit.wf, IntKind.min, IntKind.max, IntKind.bits, IntKind.signed] at h
  omega
/-- a slice of bytes that was handed over -/
theorem rdB_of_trod {H : Type} {enc : TypeId × Value → H} {W : World} {fuel : Nat} {c : Value} {y : DataW H × List MemPlace}
    (h : DataW.trod enc Try.prog W 0 (fun _ => true) true fuel 22 [c] = some y) : ∃ (a : Option Addr) (n cap : Nat), c = .slice a n cap ∧ RdB W a n ∧ n ≤ 9223372036854775807 := by
  rcases Go.ChangeShapes.open_ints Try.underlying22 Try.underlying5 (by kernel_rfl) h with ⟨hcs, _⟩ | ⟨x, len, cap, zs, hcs, _, hl, hm, hz, _, hcell, hwf⟩
  · simp only [List.cons.injEq, and_true] at hcs
    exact ⟨none, 0, 0, hcs, ⟨fun k hk => by omega⟩, by omega⟩
  · simp only [List.cons.injEq, and_true] at hcs
    simp only [if_true] at hz
    refine ⟨some x, len, cap, hcs, ⟨fun k hk => ?_⟩, by unfold maxLen at hm; omega⟩
    obtain ⟨b, off, sp⟩ := x
    have h0 := hcell 0 (by omega)
    have hsp : sp = none := by simpa [Addr.add] using World.cell?_spot h0
    subst hsp
    have hk' := hcell k (by omega)
    rw [Addr.add_lit] at hk'
    have hk2 : k < zs.length := by omega
    have hw := hwf _ (show zs.getD k 0 ∈ zs by rw [List.getD_eq_getElem?_getD, List.getElem?_eq_getElem hk2]; exact List.getElem_mem hk2)
    refine ⟨b, off, rfl, World.block_lt_of_cell? _ _ h0, zs.getD k 0, hk', ?_⟩
    exact wf_byte hw

open Go.ChangeShapes Go.WideShapes Go.ChangeAt Go.RowKit in
set_option maxRecDepth 100000 in
theorem lifted (os : Os) (started : os.Started) (H : Type) (enc : TypeId × Value → H) :
    ReturnsInHanded {} Try.checked os 7 .any (Rows.fnRunsOfEqualNumbersSpec.pre6 enc Try.prog Try.f7 Rows.fnRunsOfEqualNumbersRow.domain false) (Rows.fnRunsOfEqualNumbersSpec.post enc Try.prog Try.f7 false true false false) := by
  refine returnsInHanded_of_change (C := Try.checked) own started (by kernel_rfl) Try.func7
    (ChangeSpec.witness6 (enc := enc) (C := Try.checked) false ⟨#[], #[.slice none 0 0, .slice none 0 0], []⟩ 8 (by kernel_rfl) (by kernel_rfl) (by kernel_rfl) (by kernel_rfl)) ?_
  intro W base args ds gs before hval0 hW hcnd _
  have hval : ∀ (j : Nat) t v, Try.f7.params[j]? = some t → args[j]? = some v → Value.okWide Try.prog W .any base t v := hval0
  have hW' := hW
  obtain ⟨p, q, hA0, hV, rfl, hfz, hnd⟩ := hW
  have hA : DataW.TrodAll enc Try.prog W 0 (fun _ => true) true Try.f7.params.toList args.toList ds p := hA0
  rw [Try.params7] at hA hval
  obtain ⟨v0, vs0, d0, ds0, p0, q0, hargs, rfl, rfl, h0, r0⟩ := trodAll_cons hA
  obtain ⟨v1, vs1, d1, ds1, p1, q1, rfl, rfl, rfl, h1, r1⟩ := trodAll_cons r0
  obtain ⟨rfl, rfl, rfl⟩ := trodAll_nil r1
  obtain rfl : args = #[v0, v1] := by cases args; simp_all
  obtain ⟨rfl, rfl⟩ := trodVars_none hV
  have lt0 : ∀ x ∈ p0, x.block < W.heap.size := by obtain ⟨m, hm⟩ := h0; exact DataW.trod_lt m _ _ _ hm
  have lt1 : ∀ x ∈ p1, x.block < W.heap.size := by obtain ⟨m, hm⟩ := h1; exact DataW.trod_lt m _ _ _ hm
  obtain ⟨a0, len0, cap0, rfl⟩ := okWide_slice Try.underlying22 (hval 0 22 v0 rfl rfl)
  obtain ⟨a0, n0, cap0, e0, rd0, ln0⟩ := (by obtain ⟨fu, hf⟩ := h0; simp only [Value.cells] at hf; exact rdB_of_trod hf : ∃ (a : Option Addr) (n cap : Nat), Value.slice a0 len0 cap0 = .slice a n cap ∧ RdB W a n ∧ n ≤ 9223372036854775807)
  simp only [Value.slice.injEq] at e0
  obtain ⟨rfl, rfl, rfl⟩ := e0
  obtain ⟨a1, len1, cap1, rfl⟩ := okWide_slice Try.underlying22 (hval 1 22 v1 rfl rfl)
  obtain ⟨a1, n1, cap1, e1, rd1, ln1⟩ := (by obtain ⟨fu, hf⟩ := h1; simp only [Value.cells] at hf; exact rdB_of_trod hf : ∃ (a : Option Addr) (n cap : Nat), Value.slice a1 len1 cap1 = .slice a n cap ∧ RdB W a n ∧ n ≤ 9223372036854775807)
  simp only [Value.slice.injEq] at e1
  obtain ⟨rfl, rfl, rfl⟩ := e1
  clear hA0 hval0
  refine (walk a0 len0 cap0 a1 len1 cap1 W rd0 ln0 rd1 ln1).mono fun e W' ⟨he, bel⟩ => ?_
  subst he
  exact ⟨_, rfl, _, _, _, [], _, [], hW', trodAll_mk1 (shut_bool Try.underlying4 _), (trodAll_cons_mk (Below.trod laidOut (by kernel_rfl) (of_decide_eq_true (by kernel_rfl)) h0 bel lt0) (trodAll_cons_mk (Below.trod laidOut (by kernel_rfl) (of_decide_eq_true (by kernel_rfl)) h1 bel lt1) trodAll_mk0)), rfl, bel.frame _, fun h => by cases h⟩
theorem proved : Rows.FnRunsOfEqualNumbersSaid :=
  OpenClaim.holds_of_wide 7 Try.f7 rfl rfl rfl rfl rfl rfl rfl ⟨rfl, rfl, rfl, rfl, rfl⟩ rfl rfl rfl rfl rfl (by kernel_rfl) Try.func7 (by kernel_rfl)
    (of_decide_eq_true (by kernel_rfl)) (by unfold Func.isWrapper; first | (rw [if_pos (by decide +kernel)]; kernel_rfl) | (rw [if_neg (by decide +kernel)]; exact ⟨rfl, rfl⟩))
    (fun os started H enc _ => lifted os started H enc)

end Go.Proofs.Ytdmhjmcljpladaa.runsOfEqualNumbers
