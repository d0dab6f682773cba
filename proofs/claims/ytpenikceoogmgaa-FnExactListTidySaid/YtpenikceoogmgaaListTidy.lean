/- PROVED: the law FnExactListTidy returns true for every input, and each of its arguments reads afterwards as before. No conditions. -/
import Derived.Test.YtpenikceoogmgaaRows
import Derived.WalkKit
import Derived.WalkSpells
import Derived.WalkLawsBesides
import Derived.Deep.QuietTactic
import Derived.BigQuiet
import Derived.ProofKit
import Derived.OpenShut
import Derived.ShutString
import Derived.ChangeOld
import Derived.Below
import Derived.Lib.SmallJoins
import Derived.Lib.Hide
import Derived.Maps.AppendAt
import Derived.Deep.AppendLies
import Derived.Deep.RegionLaw
import Derived.Lib.SliceRun
import Derived.Shelf.Spec.SlicesInsertGrow
import Derived.Laws.CopyOwn
import Derived.Deep.DeepMust
import Derived.Laws.Cover3
import Derived.Deep.RegionHeld3
import Derived.Test.YtpenikceoogmgaaListTidyP2
namespace Go.Proofs.Ytpenikceoogmgaa.listTidy
open Go Go.RowKit
set_option linter.unusedVariables false
set_option linter.unusedSimpArgs false
set_option maxHeartbeats 400000
set_option maxRecDepth 100000 in
theorem iNext_any (a : Option Addr) (xs : List Int) (cap : Nat) (w : World) (hx : Rd w a xs) (hcap : xs.length ≤ cap) :
    Calls Try.prog 100 #[.slice a xs.length cap] w fun e w' => ∃ a' cap', e = .returned (.tuple #[.slice a' (nxL xs).length cap', .bool (nxB xs)]) ∧ OwnI w' w.heap.size (.slice a' (nxL xs).length cap') (nxL xs) ∧ Below w.heap.size w w' := by
  obtain ⟨i0, hi, hz0, hz1, hz2⟩ := info_parts infoInt
  have hlen := hx.len
  go_enter Try.func100, Try.ntmps100
  go_wp2_with fail
  refine (iIsAscent_any _ _ _ _ hx).mono ?_
  rintro e w1 ⟨rfl, hb1⟩
  cases hb0 : ascB xs
  · have HL : Hid (nxL xs = []) := by simp [Hid, nxL, hb0]
    have HB : Hid (nxB xs = false) := by simp [Hid, nxB, hb0]
    clear hb0
    go_wp2_with fail
    refine bodyPost_ret (v := .tuple #[.slice none 0 0, .bool false]) (by simp [results, Try.results100, go_sem]) rfl ?_
    exact ⟨none, 0, by rw [HL.out, HB.out]; rfl, by rw [HL.out]; exact OwnI.nil _ _, hb1⟩
  · have HL : Hid (nxL xs = match lastR xs xs.length with | some i => nxList xs i | none => []) := by unfold Hid nxL; exact if_pos hb0
    have HB : Hid (nxB xs = (lastR xs xs.length).isSome) := by simp [Hid, nxB, hb0]
    have h12 := (ascB_iff.1 hb0).1
    have HA := Lib.hid hb0
    clear hb0
    go_wp2_with fail
    refine (noClimb_any _).mono ?_
    rintro e w2 ⟨rfl, hb2⟩
    have bw2 := hb1.trans (hb2.mono hb1.size)
    have V1 : Var2 (w2.alloc (.cells #[.int .i64 (-1), .int .i64 (-1)] 80)) w2.heap.size (.int .i64 (-1)) (.int .i64 (-1)) := Var2.new w2 _ _ _
    have b3 : Below w.heap.size w (w2.alloc (.cells #[.int .i64 (-1), .int .i64 (-1)] 80)) := bw2.alloc bw2.size _
    have hg1 : w2.heap.size + 1 ≤ (w2.alloc (.cells #[.int .i64 (-1), .int .i64 (-1)] 80)).heap.size := by simp
    go_wp2_with fail
    obtain ⟨g, hg⟩ : ∃ g, g = w2.heap.size := ⟨_, rfl⟩
    have hg0 : w.heap.size ≤ g := by have := bw2.size; omega
    rw [← hg] at V1 hg1 ⊢
    clear hg
    go_loopw [4, 14] (fun v i wr => ∃ k : Nat, k ≤ xs.length ∧ i = .int .i64 k ∧ NxAt wr (g+1) xs v (lastR xs k) ∧ Var2 wr g (.int .i64 (clLast xs k)) (.int .i64 (clAsc xs k)) ∧ g + 1 ≤ wr.heap.size ∧ Below w.heap.size w wr) (fun _ i _ => xs.length - (intOf i).toNat)
    case atStart => exact ⟨0, Nat.zero_le _, rfl, rfl, V1, hg1, b3⟩
    case round =>
      clear V1 b3 hb1 hb2 bw2 hg1
      obtain ⟨k, hk, rfl, hN, hV, hgr, hb⟩ := hrel
      have ⟨⟨zV, cV, dV⟩, fV, gV⟩ := hV
      have ⟨ca0, ca1⟩ := clAsc_lt xs k
      by_cases hlt : k < xs.length
      · have hxr := hx.below hb
        obtain ⟨b, off, ea, hbl, hc⟩ := hxr.cell k hlt
        subst ea
        have ⟨x0, x1⟩ := ascB_small HA.out hlt
        have HS : Hid (byA (clLast xs k) (clAsc xs k) (nth xs k) = clAsc xs (k+1)) := clAsc_succ (by omega)
        have HCL : Hid (clLast xs (k+1) = nth xs k) := clLast_succ xs k
        have HCB : Hid (clAsc xs k + 1 = bndTo xs k) := clAsc_bnd xs k
        by_cases h1 : nth xs k < clAsc xs k + 1
        · have HR : Hid (lastR xs (k+1) = some k) := by rw [Hid, lastR, canB, if_pos (by rw [← HCB.out]; simpa using h1)]
          have k1 : (k : Int) ≤ (cap : Int) := by omega
          have k2 : (k : Int) < (xs.length : Int) := by omega
          have HNX : Hid ((xs.take k ++ (List.replicate xs.length (0 : Int)).drop k).set k (nth xs k + 1) = nxList xs k) := nx_row hlt
          have hTL : (xs.take k ++ (List.replicate xs.length (0 : Int)).drop k).length = xs.length := by simp; omega
          have HTL := Lib.hid hTL
          clear hN hTL
          go_wp2_with fail
          refine (greatest_any _ _ _ ca0 (by omega)).mono ?_
          rintro e w3 ⟨rfl, hb3⟩
          have V3 := hV.below hb3
          have ⟨⟨zV3, cV3, dV3⟩, fV3, gV3⟩ := V3
          have bw3 := hb.trans (hb3.mono hb.size)
          have zz3 := hb3.size
          clear cV dV fV gV
          go_wp2_with (first | (at_make; refine wpList_make_full _ rfl (.tmp 24) (.tmp 24) 22 rfl (g+1) 3 i0 (.int .i64 0) 1 Try.underlying22 hi hz0 hz1 .i64 .i64 _ _ xs.length rfl rfl rfl rfl (by rw [hz2]; omega) (by unfold maxLen; omega) (by omega) ?_; intro w4 hown4 hgrow4; have o4 : OwnI w4 (g+1) (.slice (some ⟨w3.heap.size, 0, none⟩) xs.length xs.length) (List.replicate xs.length 0) := (by have h := made_row (fun _ => 0) hown4; simpa [rowF, fmap] using h); have b4 := bw3.trans (below_grown_none hgrow4 bw3.size); have V4 := V3.kept hgrow4 (by simp); have z4 := hgrow4.size; clear hown4 cV3 dV3 fV3 gV3; have ⟨⟨zV4, cV4, dV4⟩, fV4, gV4⟩ := V4) | (have _t := o4; (with_reducible refine copy_head rfl (.tmp 26) (.tmp 29) rfl rfl rfl o4 (by simp) (hxr.below (hb3.trans (below_grown_none hgrow4 hb3.size))) (by omega) (by omega) ?_); intro w5 o5 hg5; have hne : ¬ g = w3.heap.size := (by omega); have hne2 : ¬ w3.heap.size = g := (by omega); have ⟨c5, f5⟩ := o5.at' HTL.out.symm (i := k) (by rw [HTL.out]; exact hlt); have P5 := (o5.put HTL.out.symm k (nth xs k + 1)).1; have b5 := b4.trans (grown_below hg5 w.heap.size (by omega) b4.size); have V5 := V4.kept hg5 (by simp; omega); have z5 := hg5.size; have ⟨⟨zV5, cV5, dV5⟩, fV5, gV5⟩ := V5; have HP5 := Lib.hid P5; clear P5 o5 o4 cV4 dV4 fV4 gV4))
          refine (by_any _ _ _ _ ca0 (by omega)).mono ?_
          rintro e w7 ⟨rfl, hb7⟩
          have V6 := (V5.other (p := ⟨w3.heap.size, k, none⟩) (.int .i64 (nth xs k + 1)) (by omega)).below hb7
          have ⟨⟨zV6, cV6, dV6⟩, fV6, gV6⟩ := V6
          have P6 := HP5.out
          rw [HNX.out] at P6
          have P7 := P6.below hb7 (Nat.le_refl _)
          have b7 := (b5.setCell (p := ⟨w3.heap.size, k, none⟩) (show w.heap.size ≤ w3.heap.size by omega) (.int .i64 (nth xs k + 1))).trans (hb7.mono (by simp; omega))
          have z7 := hb7.size
          simp only [World.size_setCell] at z7
          clear cV5 dV5 fV5 gV5 P6
          rw [HS.out]
          have HP7 := Lib.hid P7
          clear P7
          go_wp2_with fail
          go_roundw
          case rel => exact ⟨k + 1, by omega, by go_num, by rw [HR.out]; exact ⟨w3.heap.size, xs.length, rfl, (HP7.out.setBelow (p := ⟨g, 0, none⟩) (Nat.lt_succ_self g) _).setBelow (p := ⟨g, 1, none⟩) (Nat.lt_succ_self g) _⟩, by rw [HCL.out]; exact V6.set _ _, by simp; omega, (b7.setCell (p := ⟨g, 0, none⟩) hg0 _).setCell (p := ⟨g, 1, none⟩) hg0 _⟩
          case measure => simp [intOf]; omega
        · have HR : Hid (lastR xs (k+1) = lastR xs k) := by rw [Hid, lastR, canB, if_neg (by rw [← HCB.out]; simpa using h1)]
          have HN := Lib.hid hN
          clear hN
          go_wp2_with fail
          refine (greatest_any _ _ _ ca0 (by omega)).mono ?_
          rintro e w3 ⟨rfl, hb3⟩
          have V3 := hV.below hb3
          have ⟨⟨zV3, cV3, dV3⟩, fV3, gV3⟩ := V3
          have N3 := HN.out.below hb3 (Nat.le_refl _)
          have bw3 := hb.trans (hb3.mono hb.size)
          have zz3 := hb3.size
          clear cV dV fV gV
          go_wp2_with fail
          refine (by_any _ _ _ _ ca0 (by omega)).mono ?_
          rintro e w4 ⟨rfl, hb4⟩
          have V4 := V3.below hb4
          have ⟨⟨zV4, cV4, dV4⟩, fV4, gV4⟩ := V4
          have N4 := N3.below hb4 (Nat.le_refl _)
          have bw4 := bw3.trans (hb4.mono bw3.size)
          have zz4 := hb4.size
          clear cV3 dV3 fV3 gV3
          rw [HS.out]
          have HN4 := Lib.hid N4
          clear N4 N3
          go_wp2_with fail
          go_roundw
          case rel => exact ⟨k + 1, by omega, by go_num, by rw [HR.out]; exact (HN4.out.setBelow (p := ⟨g, 0, none⟩) (Nat.lt_succ_self g) _).setBelow (p := ⟨g, 1, none⟩) (Nat.lt_succ_self g) _, by rw [HCL.out]; exact V4.set _ _, by simp; omega, (bw4.setCell (p := ⟨g, 0, none⟩) hg0 _).setCell (p := ⟨g, 1, none⟩) hg0 _⟩
          case measure => simp [intOf]; omega
      · obtain rfl : k = xs.length := by omega
        cases hl : lastR xs xs.length with
        | none =>
          rw [hl] at hN
          have e : _ = Value.slice none 0 0 := hN
          subst e
          have H1 : Hid (nxL xs = []) := by rw [Hid, HL.out, hl]
          have H2 : Hid (nxB xs = false) := by rw [Hid, HB.out, hl]; rfl
          have hq := run_neq_slice_nil (P := Try.prog) (w := wr) 22 3 none 0 0 Try.underlying22
          simp only [Option.isNone_none, Bool.not_true] at hq
          clear hl hN
          go_wp2_with fail
          refine bodyPost_ret (v := .tuple #[.slice none 0 0, .bool false]) (by simp [results, Try.results100, go_sem]) rfl ?_
          exact ⟨none, 0, by rw [H1.out, H2.out]; rfl, by rw [H1.out]; exact OwnI.nil _ _, hb⟩
        | some i =>
          rw [hl] at hN
          obtain ⟨g4, c4, rfl, o4⟩ := hN
          have H1 : Hid (nxL xs = nxList xs i) := by rw [Hid, HL.out, hl]
          have H2 : Hid (nxB xs = true) := by rw [Hid, HB.out, hl]; rfl
          have H3 : Hid ((nxList xs i).length = xs.length) := nxList_len (lastR_lt hl)
          have hq := run_neq_slice_nil (P := Try.prog) (w := wr) 22 3 (some ⟨g4, 0, none⟩) xs.length c4 Try.underlying22
          simp only [Option.isNone_some, Bool.not_false] at hq
          clear hl
          go_wp2_with fail
          refine bodyPost_ret (v := .tuple #[.slice (some ⟨g4, 0, none⟩) xs.length c4, .bool true]) (by simp [results, Try.results100, go_sem]) rfl ?_
          exact ⟨some ⟨g4, 0, none⟩, c4, by rw [H1.out, H2.out, H3.out], by rw [H1.out, H3.out]; exact o4.mono (by omega), hb⟩

set_option maxRecDepth 100000 in
theorem iListAsc_any (n : Int) (w : World) (hn : -9223372036854775808 ≤ n ∧ n ≤ 9223372036854775807) :
    Calls Try.prog 68 #[.int .i64 n] w fun e w' => ∃ a' cap' vl, e = .returned (.tuple #[.slice a' (laL n).length cap', .bool (laB n)]) ∧ RowsP w' w.heap.size (.slice a' (laL n).length cap') vl (laL n) ∧ Below w.heap.size w w' := by
  obtain ⟨i0, hi, hz0, hz1, hz2⟩ := info_parts infoInt
  have HNO : Hid (laB n = false → laL n = []) := fun hh => by simp [laL, hh]
  by_cases h0 : n < 0
  · have H2 : Hid (laB n = false) := inB_no.2 (by omega)
    go_enter Try.func68, Try.ntmps68
    go_wp2_with fail
    refine bodyPost_ret (v := .tuple #[.slice none 0 0, .bool false]) (by simp [results, Try.results68, go_sem]) rfl ?_
    first | exact ⟨none, 0, [], by rw [HNO.out H2.out, H2.out]; rfl, by rw [HNO.out H2.out]; exact RowsP.nil _ _, Below.refl _ _⟩ | exact ⟨none, 0, by rw [HNO.out H2.out, H2.out]; rfl, ⟨[], by rw [HNO.out H2.out]; exact RowsP.nil _ _⟩, Below.refl _ _⟩
  · by_cases h1 : 7 < n
    · have H2 : Hid (laB n = false) := inB_no.2 (by omega)
      go_enter Try.func68, Try.ntmps68
      go_wp2_with fail
      refine bodyPost_ret (v := .tuple #[.slice none 0 0, .bool false]) (by simp [results, Try.results68, go_sem]) rfl ?_
      first | exact ⟨none, 0, [], by rw [HNO.out H2.out, H2.out]; rfl, by rw [HNO.out H2.out]; exact RowsP.nil _ _, Below.refl _ _⟩ | exact ⟨none, 0, by rw [HNO.out H2.out, H2.out]; rfl, ⟨[], by rw [HNO.out H2.out]; exact RowsP.nil _ _⟩, Below.refl _ _⟩
    · obtain ⟨N, rfl⟩ := Int.eq_ofNat_of_zero_le (by omega : 0 ≤ n)
      have hN : N ≤ 7 := by omega
      have H2 : Hid (laB (N : Int) = true) := inB_iff.2 (by omega)
      have H1 : Hid (laL (N : Int) = laS N) := by rw [Hid, laL, if_pos H2.out]; rfl
      have HE := Lib.hid (laS_end ⟨N, by omega⟩)
      have HLN := Lib.hid (laS_len ⟨N, by omega⟩)
      have HROW : Hid (∀ k, k < (laS N).length → (rowL (laS N) k).length = N ∧ ascB (rowL (laS N) k) = true) := fun k hk => laS_row hN hk
      have HNXT : Hid (∀ k, k < (laS N).length → nxB (rowL (laS N) k) = decide (k + 1 < (laS N).length) ∧ (k + 1 < (laS N).length → nxL (rowL (laS N) k) = rowL (laS N) (k+1))) := fun k hk => laSeq_next HE.out k hk
      have HZ : Hid (rowL (laS N) 0 = List.replicate N 0) := laSeq_zero HE.out
      have HP : Hid (0 < (laS N).length) := laSeq_pos HE.out
      obtain ⟨S, hS⟩ : ∃ S, S = laS N := ⟨_, rfl⟩
      rw [← hS] at H1 HROW HNXT HZ HP
      have hKL : S.length ≤ 1014 := by rw [hS]; exact HLN.out
      clear hS HE HLN h0 h1
      go_enter Try.func68, Try.ntmps68
      go_wp2_with (at_make; refine wpList_make_full _ rfl (.tmp 13) (.tmp 13) 22 rfl w.heap.size 3 i0 (.int .i64 0) 1 Try.underlying22 hi hz0 hz1 .i64 .i64 _ _ N rfl rfl rfl rfl (by rw [hz2]; omega) (by unfold maxLen; omega) (Nat.le_refl _) ?_; intro w1 hown hgrow)
      have b1 : Below w.heap.size w w1 := below_grown_none hgrow (Nat.le_refl _)
      have o1 : OwnI w1 w.heap.size (.slice (some ⟨w.heap.size, 0, none⟩) N N) (List.replicate N 0) := by
        have h := made_row (fun _ => 0) hown
        simpa [rowF, fmap] using h
      have hs1 := b1.size
      have hL0 : LaAt w1 w.heap.size S (.slice none 0 0) (.slice (some ⟨w.heap.size, 0, none⟩) N N) 0 := ⟨[], by rw [List.take_zero]; exact RowsP.nil _ _, fun _ => ⟨w.heap.size, Nat.le_refl _, hs1, by rw [HZ.out]; exact o1, (fun c e => by cases e), fun j hj => by simp at hj⟩⟩
      clear hown hgrow o1
      go_wp2_with fail
      go_loopw [4, 5, 6] (fun v u ok wr => ∃ k : Nat, k ≤ S.length ∧ ok = .bool (decide (k < S.length)) ∧ LaAt wr w.heap.size S v u k ∧ Below w.heap.size w wr) (fun v _ _ _ => S.length - sliceLen v)
      case atStart => exact ⟨0, Nat.zero_le _, by rw [decide_eq_true HP.out], hL0, b1⟩
      case round =>
        clear hL0 b1 hs1
        obtain ⟨k, hk, rfl, ⟨vl, hro, hnx⟩, hb⟩ := hrel
        have hbs := hb.size
        have hTL : (S.take k).length = k := by simp; omega
        obtain ⟨T, hT⟩ : ∃ T, T = S.take k := ⟨_, rfl⟩
        rw [← hT] at hro hTL hnx
        obtain ⟨av, cv, rfl⟩ := hro.o.form
        rw [hTL] at hro hnx ⊢
        have HTL := Lib.hid hTL
        by_cases hlt : k < S.length
        · obtain ⟨C, hC0, hC1, ho, hvC, hrC⟩ := hnx hlt
          have HTS : Hid (S.take (k+1) = T ++ [rowL S k]) := by rw [Hid, hT]; exact take_snoc hlt
          have hdk : decide (k < S.length) = true := decide_eq_true hlt
          have ⟨hr1, hr2⟩ := HROW.out k hlt
          have ⟨hn1, hn2⟩ := HNXT.out k hlt
          obtain ⟨R, hR⟩ : ∃ R, R = rowL S k := ⟨_, rfl⟩
          rw [← hR] at ho hr1 hr2 hn1 hn2 HTS
          obtain ⟨au, cu, rfl⟩ := ho.form
          have h63 : T.length ≤ 1048576 := by omega
          rw [hdk]
          have HRO := Lib.hid (And.intro hro (And.intro ho (And.intro hvC hrC)))
          have hcu := ho.capLe
          have HR := Lib.hid (And.intro hr2 (And.intro hn1 hn2))
          rw [hr1] at hcu ⊢
          have HRL := Lib.hid hr1
          clear hr1 hr2 hn1 hn2 hnx hdk hro ho hvC hrC hTL hR hT
          go_wp2_with (at_builtin; refine push_row (v := .slice av k cv) rfl _ _ rfl rfl HRO.out.1 (by rw [← HRL.out]; exact HRO.out.2.1) rfl h63 hC0 hC1 HRO.out.2.2.1 (by rw [HTL.out]; exact HRO.out.2.2.2) ?_; intro v2 w2 hro2 hb2)
          have oR : OwnI w2 C (.slice au R.length cu) R := HRO.out.2.1.kept hb2 (own_ne (fun c e e2 => by have h1 := HRO.out.2.2.1 c e2; have h2 := (HRO.out.2.1.lt c e).1; omega))
          have b2 := hb.trans (below_of_grown hb2 (fun c e => (HRO.out.1.o.lt c e).1) hbs)
          have hbs2 := b2.size
          have rR := oR.rd
          have HRO2 := Lib.hid hro2
          have hNx := iNext_any au R cu w2 rR (by rw [HRL.out]; exact hcu)
          rw [HRL.out] at hNx
          clear hro2 oR hb2
          go_wp2_with fail
          refine hNx.mono ?_
          rintro e w3 ⟨a3, c3, rfl, ho3, hb3⟩
          clear hNx
          rw [HR.out.2.1]
          have b3 := b2.trans (hb3.mono hbs2)
          have hro3 := HRO2.out.below hb3 (Nat.le_refl _)
          have hL : LaAt w3 w.heap.size S v2 (.slice a3 (nxL R).length c3) (k+1) := ⟨_, by rw [HTS.out]; exact hro3, fun hk2 => ⟨w2.heap.size, hbs2, hb3.size, by rw [← HR.out.2.2 hk2]; exact ho3, HRO2.out.blk.1, by rw [HTS.out]; exact HRO2.out.blk.2⟩⟩
          have hm : sliceLen v2 = k + 1 := by
            obtain ⟨a7, c7, e7⟩ := HRO2.out.o.form
            rw [e7, List.length_append, HTL.out]; rfl
          have HM := Lib.hid hm
          clear hm ho3
          go_wp2_with fail
          go_roundw
          case rel => exact ⟨k + 1, by omega, rfl, hL, b3⟩
          case measure =>
            rw [HM.out]
            show S.length - (k + 1) < S.length - k
            omega
        · obtain rfl : k = S.length := by omega
          have hdk : decide (S.length < S.length) = false := by simp
          rw [hdk]
          have HTT : Hid (T = S) := by rw [Hid, hT]; exact List.take_length
          clear hdk hnx hT hTL
          go_wp2_with fail
          refine bodyPost_ret (v := .tuple #[.slice av S.length cv, .bool true]) (by simp [results, Try.results68, go_sem]) rfl ?_
          first | exact ⟨av, cv, vl, by rw [H1.out, H2.out], by rw [H1.out, ← HTT.out, HTL.out]; exact hro, hb⟩ | exact ⟨av, cv, by rw [H1.out, H2.out], ⟨vl, by rw [H1.out, ← HTT.out, HTL.out]; exact hro⟩, hb⟩

set_option maxRecDepth 100000 in
set_option maxHeartbeats 1000000 in
theorem iLM_any (n : Int) (w : World) (hn : -9223372036854775808 ≤ n ∧ n ≤ 9223372036854775807) :
    Calls Try.prog 37 #[.int .i64 n] w fun e w' => ∃ a c vl lo hi, e = .returned (.tuple #[.slice a (laL n).length c, .bool (laB n)]) ∧ MxsP w' w.heap.size (.slice a (laL n).length c) (laL n).length vl (lmL n) lo hi ∧ Below w.heap.size w w' := by
  obtain ⟨j0, hj0, hy0, hy1, hy2⟩ := info_parts infoMx
  have HNO : Hid (laB n = false → laL n = []) := fun hh => by simp [laL, hh]
  have HLL := Lib.hid (laL_le n)
  cases hb : laB n
  · have HL0 := HNO.out hb
    have HB := Lib.hid hb
    clear hb
    go_enter Try.func37, Try.ntmps37
    go_wp2_with fail
    refine (iListAsc_any n _ hn).mono ?_
    rintro e w1 ⟨a1, c1, vl1, rfl, hro, hb1⟩
    rw [HB.out, HL0]
    go_wp2_with fail
    refine bodyPost_ret (v := .tuple #[.slice none 0 0, .bool false]) (by simp [results, Try.results37, go_sem]) rfl ?_
    have e0 := HNO.out HB.out
    exact ⟨none, 0, [], fun _ => 0, fun _ => 0, by simp [e0], by rw [show lmL n = [] by simp [lmL, e0], e0]; exact ⟨World.ownsRow_nil _ _ _ _, by simp, fun k hk => by simp at hk, fun k hk => by simp at hk, fun i j h1 h2 => by simp at h2, fun k hk => by simp at hk⟩, hb1⟩
  · have HB := Lib.hid hb
    clear hb
    go_enter Try.func37, Try.ntmps37
    go_wp2_with fail
    refine (iListAsc_any n _ hn).mono ?_
    rintro e w1 ⟨a1, c1, vl1, rfl, hro, hb1⟩
    rw [HB.out]
    have HX := Lib.hid hro.rdC
    have hs1 := hb1.size
    have HROW : Hid (∀ k, k < (laL n).length → ascB (rowL (laL n) k) = true) := fun k hk => (laL_row hk).2
    obtain ⟨S, hS⟩ : ∃ S, S = laL n := ⟨_, rfl⟩
    have HSL := Lib.hid hS
    rw [← hS] at HX HROW HLL ⊢
    have hll := HLL.out
    have b1 := hb1
    clear hro hS hb1
    go_wp2_with (at_make; refine wpList_make_full _ rfl (.tmp 17) (.tmp 17) 49 rfl w1.heap.size 39 j0 (.agg #[.slice none 0 0]) 1 Try.underlying49 hj0 hy0 hy1 .i64 .i64 _ _ S.length rfl rfl rfl rfl (by rw [hy2]; omega) (by unfold maxLen; omega) (Nat.le_refl _) ?_; intro w2 hown hgrow)
    have b2 : Below w1.heap.size w1 w2 := (Below.refl _ _).grown hgrow (Nat.le_refl _) (fun k h => by cases h)
    have hm0 : MxsP w2 w1.heap.size (.slice (some ⟨w1.heap.size, 0, none⟩) S.length S.length) S.length (List.replicate S.length (.slice none 0 0)) ((S.map moaL).take 0) (fun _ => 0) (fun _ => 0) :=
      ⟨by simpa [Value.cells, toList_madeCells_one] using hown, by simp, fun k hk => by simp at hk, fun k hk => by simp at hk, fun i j h1 h2 => by simp at h2, fun k hk => by simp at hk⟩
    have hg1 : w1.heap.size < w2.heap.size := by
      have := World.ownsRow.lt hown w1.heap.size rfl
      omega
    have HM0 := Lib.hid hm0
    clear hown hgrow hm0
    go_wp2_with fail
    go_loopw [21] (fun i wr => ∃ (k : Nat) (vl : List Value) (lo hi : Nat → Nat), k ≤ S.length ∧ i = .int .i64 k ∧ MxsP wr w1.heap.size (.slice (some ⟨w1.heap.size, 0, none⟩) S.length S.length) S.length vl ((S.map moaL).take k) lo hi ∧ Below w1.heap.size w1 wr) (fun i _ => S.length - (intOf i).toNat)
    case atStart => exact ⟨0, _, _, _, Nat.zero_le _, rfl, HM0.out, b2⟩
    case round =>
      obtain ⟨k, vl, lo, hi, hk, rfl, hro, hb⟩ := hrel
      have hbs := hb.size
      by_cases hlt : k < S.length
      · have k1 : (k : Int) < (S.length : Int) := by omega
        obtain ⟨b, off, a', cap', rfl, hbl, hc, hr, hcp⟩ := (HX.out.below hb).row hlt
        have HC := Lib.hid (fun W (h : Rd W a' (rowL S k)) => iMOA_any a' (rowL S k) cap' W h hcp)
        have HA := HROW.out k hlt
        have HTK : Hid ((S.map moaL).take (k+1) = (S.map moaL).take k ++ [moaL (rowL S k)]) := by
          rw [Hid, List.take_succ_eq_append_getElem (by simpa using hlt)]
          simp only [List.getElem_map]
          rw [rowL, List.getD_eq_getElem?_getD, List.getElem?_eq_getElem hlt]
          simp
        rw [HA] at HC
        have hgg : w1.heap.size < wr.heap.size := (World.ownsRow.lt hro.own w1.heap.size rfl).2
        have hst := fun (W : World) (u : Value) (vl : List Value) (h : W.ownsRow w1.heap.size 39 1 (.slice (some ⟨w1.heap.size, 0, none⟩) S.length S.length) S.length vl) => World.ownsRow.stored h k u
        have HST := Lib.hid hst
        have HRO := Lib.hid hro
        obtain ⟨M, hM⟩ : ∃ M, M = moaL (rowL S k) := ⟨_, rfl⟩
        rw [← hM] at HC HTK
        have HR := Lib.hid hr
        generalize hLr : (rowL S k).length = lr at hc HC hcp
        clear hro hM hr hst HA
        go_wp2_with fail
        refine (HC.out _ HR.out).mono ?_
        rintro e w2 ⟨a2, c2, ul, rfl, hr2, hb2⟩
        have hs2 := hb2.size
        have HR2 := Lib.hid hr2
        have HO2 := Lib.hid (HRO.out.below hb2 (Nat.le_refl _))
        have HB2 := Lib.hid hb2
        have hvl := HRO.out.vlen
        have hcc := World.ownsRow.cellAt HO2.out.own k (by omega)
        have hfr := World.ownsRow.frozenAt HO2.out.own k
        have hcc' : ∃ u, w2.cell? ⟨w1.heap.size, k, none⟩ = some u := by
          rw [hcc]
          exact ⟨_, List.getElem?_eq_getElem (by omega)⟩
        obtain ⟨u, hu⟩ := hcc'
        clear hr2 hb2 hcc
        have hs5 := HST.out w2 (.slice a2 M.length c2) vl HO2.out.own
        obtain ⟨lo', hi', h6⟩ := HRO.out.step (by omega) HB2.out HR2.out hs5.1 hs5.2 (fun c e => by simp only [Value.ownBlock, Option.some.injEq] at e; omega) (fun c e => .inl e) (by simp; omega) (fun j hj => by simp at hj; rw [valAt, valAt, List.getD_eq_getElem?_getD, List.getD_eq_getElem?_getD, List.getElem?_set]; rw [if_neg (by omega)]) (by rw [show ((S.map moaL).take k).length = k by simp; omega]; rw [valAt, List.getD_eq_getElem?_getD, List.getElem?_set, if_pos rfl, if_pos (by omega)]; rfl)
        rw [← HTK.out] at h6
        have b6 := hb.trans ((HB2.out.mono hbs).setCell (p := ⟨w1.heap.size, k, none⟩) (Nat.le_refl _) (.slice a2 M.length c2))
        have H6 := Lib.hid (And.intro h6 b6)
        clear hs5 h6 b6 HR2 HO2 hvl HST
        go_wp2_with fail
        go_roundw
        case rel => exact ⟨k + 1, _, _, _, by omega, by go_num, H6.out.1, H6.out.2⟩
        case measure => simp [intOf]; omega
      · obtain rfl : k = S.length := by omega
        have HRD := Lib.hid hro
        clear hro
        go_wp2_with fail
        refine bodyPost_ret (v := .tuple #[.slice (some ⟨w1.heap.size, 0, none⟩) S.length S.length, .bool true]) (by simp [results, Try.results37, go_sem]) rfl ?_
        refine ⟨_, _, vl, lo, hi, by rw [← HSL.out], ?_, b1.trans (hb.mono hs1)⟩
        have h8 := HRD.out.mono hs1
        rw [List.take_of_length_le (by simp), show S.map moaL = lmL n by rw [HSL.out]; rfl, HSL.out] at h8
        rw [HSL.out]; exact h8



def ctF (e : Nat → Nat → Nat) (i j t b : Nat) : Nat := if b < j then cS e b (i+1) else if b = j then cS e b i + t else cS e b i
/-- the openers whose closers are to come, for each run of closers -/
def opR (e : Nat → Nat → Nat) (d i j t : Nat) : List (List Int) := (List.range d).map (fun b => fmap (fun s => (tmF e d (cP e d b + s) : Int)) (ctF e i j t b))
theorem opR_len (e : Nat → Nat → Nat) (d i j t : Nat) : (opR e d i j t).length = d := by simp [opR]
theorem opR_row (e : Nat → Nat → Nat) {d b : Nat} (i j t : Nat) (h : b < d) : rowL (opR e d i j t) b = fmap (fun s => (tmF e d (cP e d b + s) : Int)) (ctF e i j t b) := by simp [opR, rowL, h]
theorem opR_ext {e : Nat → Nat → Nat} {d i j t i' j' t' : Nat} (h : ∀ b, b < d → ctF e i j t b = ctF e i' j' t' b) : opR e d i j t = opR e d i' j' t' := by
  simp only [opR]
  apply List.map_congr_left
  intro b hb
  rw [h b (by simpa using hb)]
theorem opR_nextj (e : Nat → Nat → Nat) (d i j : Nat) : opR e d i j (e i j) = opR e d i (j+1) 0 := opR_ext (fun b hb => by
  unfold ctF
  by_cases h1 : b < j
  · rw [if_pos h1, if_pos (by omega)]
  · rw [if_neg h1]
    by_cases h2 : b = j
    · subst h2; rw [if_pos rfl, if_pos (by omega)]; rfl
    · rw [if_neg h2, if_neg (by omega)]
      split <;> rfl)
theorem opR_nexti (e : Nat → Nat → Nat) (d i : Nat) : opR e d i d 0 = opR e d (i+1) 0 0 := opR_ext (fun b hb => by
  unfold ctF
  rw [if_pos hb, if_neg (by omega)]
  split <;> rfl)
theorem opR_zero (e : Nat → Nat → Nat) (d : Nat) : List.replicate d [] = opR e d 0 0 0 := by
  apply List.ext_getElem (by simp [opR])
  intro b h1 h2
  have hb : b < d := by simpa using h1
  have hc : ctF e 0 0 0 b = 0 := by
    unfold ctF
    rw [if_neg (by omega)]
    split <;> rfl
  simp [opR, hc, fmap]
theorem opR_set {e : Nat → Nat → Nat} {d i j t X : Nat} (hj : j < d) (hX : tmF e d (cP e d j + cS e j i + t) = X) : (opR e d i j t).set j (rowL (opR e d i j t) j ++ [(X : Int)]) = opR e d i j (t+1) := by
  have hr := opR_row e i j t hj
  have hcj : ctF e i j t j = cS e j i + t := by rw [ctF, if_neg (by omega), if_pos rfl]
  have hcj2 : ctF e i j (t+1) j = cS e j i + t + 1 := by rw [ctF, if_neg (by omega), if_pos rfl]; omega
  rw [hr, hcj]
  apply List.ext_getElem (by rw [List.length_set, opR_len, opR_len])
  intro b h1 h2
  have hb : b < d := by rw [opR_len] at h2; exact h2
  rw [List.getElem_set]
  by_cases e1 : j = b
  · subst e1
    rw [if_pos rfl]
    simp only [opR, List.getElem_map, List.getElem_range]
    rw [hcj2, fmap_succ, ← hX, Nat.add_assoc (cP e d j)]
  · rw [if_neg e1]
    simp only [opR, List.getElem_map, List.getElem_range]
    have : ctF e i j t b = ctF e i j (t+1) b := by
      unfold ctF
      by_cases h3 : b < j
      · rw [if_pos h3, if_pos h3]
      · rw [if_neg h3, if_neg h3, if_neg (fun h => e1 h.symm), if_neg (fun h => e1 h.symm)]
    rw [this]
/-- the openers of the run of closers i, all of them -/
theorem opR_full {e : Nat → Nat → Nat} {d i : Nat} (hu : UpN e) (hi : i < d) : rowL (opR e d i d 0) i = fmap (fun s => (tmF e d (cP e d i + s) : Int)) (cS e i d) := by
  rw [opR_row e i d 0 hi]
  congr 1
  rw [ctF, if_pos hi]
  have : ∀ k, i + 1 ≤ k → cS e i k = cS e i (i+1) := by
    intro k hk
    induction k with
    | zero => omega
    | succ k ih =>
      by_cases e0 : i + 1 = k + 1
      · rw [e0]
      · have h1 : cS e i (k+1) = cS e i k + e k i := rfl
        rw [h1, ih (by omega), hu k i (by omega)]; omega
  exact (this d (by omega)).symm
/-- a row that lies below what changes -/
theorem OwnI.far {w w' : World} {B0 B g n c : Nat} {xs : List Int} (h : OwnI w B0 (.slice (some ⟨g, 0, none⟩) n c) xs) (hb : Below B w w') (hg : g < B) : OwnI w' B0 (.slice (some ⟨g, 0, none⟩) n c) xs := by
  refine ⟨h.1, ?_⟩
  rcases h.2 with hn | ⟨g', cap, cur, e, hb', hgg, rest⟩
  · exact .inl hn
  · refine .inr ⟨g', cap, cur, e, hb', ?_, rest⟩
    simp only [Value.slice.injEq, Option.some.injEq, Addr.mk.injEq, and_true] at e
    rw [hb.block g' (by omega)]
    exact hgg
/-- a list that grows in its block, and rows of numbers behind it -/
structure StM (W0 W : World) (B0 B gp go N d L : Nat) (ps : List Int) (vl : List Value) (rs : List (List Int)) : Prop where
  o : OwnI W B0 (.slice (some ⟨gp, 0, none⟩) L N) ps
  r : RowsP W B (.slice (some ⟨go, 0, none⟩) d d) vl rs
  l : ps.length = L
  lr : rs.length = d
  lo : B0 ≤ gp
  hi : gp < B
  bs : B ≤ W.heap.size
  b : Below B0 W0 W
theorem StM.push {W0 W W' : World} {B0 B gp go N d L : Nat} {ps ps' : List Int} {vl : List Value} {rs : List (List Int)} (h : StM W0 W B0 B gp go N d L ps vl rs) (hg : W.grownBy W' (some gp)) (ho : OwnI W' B0 (.slice (some ⟨gp, 0, none⟩) (L+1) N) ps') (hl : ps'.length = L + 1) : StM W0 W' B0 B gp go N d (L+1) ps' vl rs := by
  have ⟨c1, c2⟩ := h.r.cut (Nat.le_refl _)
  have h1 := h.hi
  refine ⟨ho, h.r.kept hg (fun c e e2 => ?_) (fun k hk c e e2 => ?_), hl, h.lr, h.lo, h.hi, Nat.le_trans h.bs hg.size, h.b.trans (grown_below hg _ h.lo (Nat.le_trans h.b.size (Nat.le_refl _) |> fun _ => Nat.le_trans (Nat.le_trans h.lo (Nat.le_of_lt h.hi)) h.bs))⟩
  · have := (c1 c e).1
    simp only [Option.some.injEq] at e2; omega
  · have := (c2 k hk c e).1
    simp only [Option.some.injEq] at e2; omega
theorem StM.grow {W0 W w3 : World} {B0 B gp go N d L : Nat} {ps : List Int} {vl : List Value} {rs : List (List Int)} (h : StM W0 W B0 B gp go N d L ps vl rs) {j : Nat} (hj : j < d) {v' : Value} {r : List Int} (hg : W.grownBy w3 (valAt vl j).ownBlock) (ho : OwnI w3 B v' r) (hat : v'.ownBlock = (valAt vl j).ownBlock ∨ v'.ownBlock = some (W.heap.size + 1)) :
    (∃ z, w3.cell? ⟨go, j, none⟩ = some z) ∧ w3.frozen? ⟨go, j, none⟩ = false ∧ StM W0 (w3.setCell ⟨go, j, none⟩ v') B0 B gp go N d L ps (vl.set j v') (rs.set j r) := by
  have hjr : j < rs.length := by rw [h.lr]; exact hj
  obtain ⟨g', c', ev, hB', hg', hz, hf, HR⟩ := h.r.growRow hjr hg ho (fun c e => by
    rcases hat with h1 | h1
    · exact .inl (h1 ▸ e)
    · rw [h1] at e
      simp only [Option.some.injEq] at e
      exact .inr (by omega))
  simp only [Value.slice.injEq, Option.some.injEq, Addr.mk.injEq, and_true] at ev
  obtain ⟨rfl, -, rfl⟩ := ev
  have hlo := h.lo
  have hhi := h.hi
  have hb3 : Below B W w3 := below_of_grown hg (fun c e => ((h.r.o.row j hjr).lt c e).1) h.bs
  have hgr := grown_set w3 ⟨go, j, none⟩ v'
  refine ⟨hz, hf, ⟨(h.o.far hb3 hhi).kept hgr (own_b (by show gp ≠ go; omega)), ?_, h.l, by rw [List.length_set]; exact h.lr, h.lo, h.hi, ?_, (h.b.trans (hb3.mono (by omega))).setCell (p := ⟨go, j, none⟩) (by show B0 ≤ go; omega) _⟩⟩
  · exact HR
  · have := h.bs; have := hb3.size; simp; omega
theorem StM.putP {W0 W : World} {B0 B gp go N d L : Nat} {ps : List Int} {vl : List Value} {rs : List (List Int)} (h : StM W0 W B0 B gp go N d L ps vl rs) (i : Nat) (x : Int) : StM W0 (W.setCell ⟨gp, i, none⟩ (.int .i64 x)) B0 B gp go N d L (ps.set i x) vl rs := by
  have hp := h.o.put h.l.symm i x
  have ⟨c1, c2⟩ := h.r.cut (Nat.le_refl _)
  have h1 := h.hi
  refine ⟨hp.1, h.r.kept hp.2 (fun c e e2 => ?_) (fun k hk c e e2 => ?_), by rw [List.length_set]; exact h.l, h.lr, h.lo, h.hi, by simpa using h.bs, h.b.setCell (p := ⟨gp, i, none⟩) h.lo _⟩
  · have := (c1 c e).1
    simp only [Option.some.injEq] at e2; omega
  · have := (c2 k hk c e).1
    simp only [Option.some.injEq] at e2; omega
theorem tm_back {e : Nat → Nat → Nat} {d i q : Nat} (hu : UpN e) (hi : i < d) (h1 : cP e d i ≤ q) (h2 : q < oP e d (i+1)) : tmF e d q < cP e d i := by
  have h3 : oP e d (i+1) = oP e d i + (rS e i d + cS e i d) := rfl
  have h6 : cP e d i = oP e d i + rS e i d := rfl
  have h7 : oP e d (i+1) ≤ oP e d d := sN_up _ (by omega)
  obtain ⟨i', j, t, hi', hj, ht, h | h⟩ := tm_of (e := e) (d := d) (q := q) (by omega)
  · have ⟨_, _, h5⟩ := tm_lt hu hi' hj ht
    have h8 : oP e d (i'+1) = oP e d i' + (rS e i' d + cS e i' d) := rfl
    have h9 : cP e d i' = oP e d i' + rS e i' d := rfl
    have := tm_blk (e := e) (d := d) (q := q) (i := i) (i' := i') (by omega) (by omega) (by omega) (by omega)
    subst this
    omega
  · have ⟨h10, h4, h5⟩ := tm_lt hu hi' hj ht
    have h9 : cP e d j = oP e d j + rS e j d := rfl
    have := tm_blk (e := e) (d := d) (q := q) (i := i) (i' := j) (by omega) (by omega) (by omega) (by omega)
    subst this
    have h11 := tm_cl hi' hj ht
    rw [h, h11]
    by_cases hii : i' = i
    · subst hii; omega
    · have hij : i' < i := by
        apply Classical.byContradiction
        intro hn
        have := hu i' i (by omega)
        omega
      have h12 : oP e d (i'+1) ≤ oP e d i := sN_up _ (by omega)
      have h13 : oP e d (i'+1) = oP e d i' + (rS e i' d + cS e i' d) := rfl
      have h14 : cP e d i' = oP e d i' + rS e i' d := rfl
      omega

def smV (xss : List (List Int)) : Int := if mxB xss then matS xss xss.length else 0

theorem iSumMx_any (a : Option Addr) (xss : List (List Int)) (cap : Nat) (w : World) (hx : RdC w a xss) (hs : xss.length + totS xss xss.length ≤ 1048576) :
    Calls Try.prog 95 #[.agg #[.slice a xss.length cap]] w fun e w' => e = .returned (.tuple #[.int .i64 (smV xss), .bool (mxB xss)]) ∧ Below w.heap.size w w' := by
  have hlen := hx.rd.len
  have HCL := Lib.hid (fun W (h : RdC W a xss) => rowsOf_any a xss cap W h hs)
  cases hm : mxB xss
  · have HM := Lib.hid hm
    have H1 : Hid (smV xss = 0) := by simp [Hid, smV, hm]
    clear hm
    go_enter Try.func95, Try.ntmps95
    go_wp2_with fail
    refine (HCL.out _ (hx.below (by repeat (first | exact Below.refl _ _ | assumption | refine Below.alloc ?_ (by first | exact Nat.le_refl _ | (simp only [World.size_alloc, World.size_setCell, World.size_drew]; omega) | omega) _ | refine Below.setCell ?_ (by first | exact Nat.le_refl _ | (simp only [World.size_alloc, World.size_setCell, World.size_drew]; omega) | omega) _ | refine Below.drew ?_)))).mono ?_
    rintro e w1 ⟨s, va, vn, vc, rfl, _, hb⟩
    rw [HM.out]
    have b1 : Below w.heap.size w w1 := Below.trans (by repeat (first | exact Below.refl _ _ | assumption | refine Below.alloc ?_ (by first | exact Nat.le_refl _ | (simp only [World.size_alloc, World.size_setCell, World.size_drew]; omega) | omega) _ | refine Below.setCell ?_ (by first | exact Nat.le_refl _ | (simp only [World.size_alloc, World.size_setCell, World.size_drew]; omega) | omega) _ | refine Below.drew ?_)) (hb.mono (by first | (simp only [World.size_alloc, World.size_setCell, World.size_drew]; omega) | omega))
    clear hb
    go_wp2_with fail
    go_ret2
    exact ⟨ret_ib' H1.out.symm rfl, b1.alloc b1.size _⟩
  · have HM := Lib.hid hm
    have H1 : Hid (smV xss = matS xss xss.length) := by simp [Hid, smV, hm]
    clear hm
    go_enter Try.func95, Try.ntmps95
    go_wp2_with fail
    refine (HCL.out _ (hx.below (by repeat (first | exact Below.refl _ _ | assumption | refine Below.alloc ?_ (by first | exact Nat.le_refl _ | (simp only [World.size_alloc, World.size_setCell, World.size_drew]; omega) | omega) _ | refine Below.setCell ?_ (by first | exact Nat.le_refl _ | (simp only [World.size_alloc, World.size_setCell, World.size_drew]; omega) | omega) _ | refine Below.drew ?_)))).mono ?_
    rintro e w1 ⟨s, va, vn, vc, rfl, hok, hb⟩
    have hok2 := Lib.hid (hok HM.out).1
    rw [HM.out]
    have b1 : Below w.heap.size w w1 := Below.trans (by repeat (first | exact Below.refl _ _ | assumption | refine Below.alloc ?_ (by first | exact Nat.le_refl _ | (simp only [World.size_alloc, World.size_setCell, World.size_drew]; omega) | omega) _ | refine Below.setCell ?_ (by first | exact Nat.le_refl _ | (simp only [World.size_alloc, World.size_setCell, World.size_drew]; omega) | omega) _ | refine Below.drew ?_)) (hb.mono (by first | (simp only [World.size_alloc, World.size_setCell, World.size_drew]; omega) | omega))
    clear hb hok
    go_wp2_with fail
    go_ret2
    exact ⟨ret_ib' (by rw [H1.out, hok2.out]) rfl, b1.alloc b1.size _⟩

/-- what a call hands back that makes a list -/
def GotI (w : World) (ys : List Int) (ok : Bool) (e : Ending) (w' : World) : Prop :=
  ∃ a cap, e = .returned (.tuple #[.slice a ys.length cap, .bool ok]) ∧ OwnI w' w.heap.size (.slice a ys.length cap) ys ∧ Below w.heap.size w w'
theorem gotI_no {w w' : World} {ys : List Int} {ok : Bool} (h1 : ys = []) (h2 : ok = false) (hb : Below w.heap.size w w') : GotI w ys ok (.returned (.tuple #[.slice none 0 0, .bool false])) w' :=
  ⟨none, 0, by rw [h1, h2]; rfl, by rw [h1]; exact OwnI.nil _ _, hb⟩

set_option maxRecDepth 100000 in
set_option maxHeartbeats 1000000 in
theorem iMtMx_any (a : Option Addr) (xss : List (List Int)) (cap : Nat) (w : World) (hx : RdC w a xss) (hs : xss.length + totS xss xss.length ≤ 1048576) :
    Calls Try.prog 76 #[.agg #[.slice a xss.length cap]] w (GotI w (tmL xss) (mxB xss)) := by
  obtain ⟨i0, hi, hz0, hz1, hz2⟩ := info_parts infoInt
  obtain ⟨j0, hj0, hy0, hy1, hy2⟩ := info_parts infoRow0
  obtain ⟨W0, hW0⟩ : ∃ x : World, x = w.alloc (.cells #[.slice a xss.length cap] 39) := ⟨_, rfl⟩
  have bw0 : Below w.heap.size w W0 := by rw [hW0]; exact (Below.refl _ _).alloc (Nat.le_refl _) _
  have B0 : Box1 W0 w.heap.size (.slice a xss.length cap) := by rw [hW0]; exact Box1.new w _ _
  have hx0 := hx.below bw0
  obtain ⟨g0, hg0⟩ : ∃ g, g = w.heap.size := ⟨_, rfl⟩
  have HSM := Lib.hid (fun W (h : RdC W a xss) => iSumMx_any a xss cap W h hs)
  clear hx
  cases hb0 : mxB xss
  · have HL : Hid (tmL xss = []) := by simp [Hid, tmL, hb0]
    rw [hb0] at HSM
    clear hb0
    go_enter Try.func76, Try.ntmps76
    go_wp2_with fail
    rw [← hW0]
    rw [← hg0] at B0 ⊢
    have ⟨zB0, cB0⟩ := B0
    clear hg0 hW0
    go_wp2_with fail
    refine (HSM.out _ hx0).mono ?_
    rintro e w1 ⟨rfl, hb⟩
    clear cB0
    go_wp2_with fail
    refine bodyPost_ret (v := .tuple #[.slice none 0 0, .bool false]) (by simp [results, Try.results76, go_sem]) rfl ?_
    exact gotI_no HL.out rfl (bw0.trans (hb.mono bw0.size))
  · have h12 := mxB_small hb0
    have ⟨hN2, hN24⟩ := en_two hb0
    have HSV : Hid (smV xss = matS xss xss.length) := by simp [Hid, smV, hb0]
    have HIN := Lib.hid (tm_Inv (d := xss.length) (en_up xss))
    have HTL : Hid (tmL xss = P2 (tmF (enN xss) xss.length) (oP (enN xss) xss.length xss.length)) := by rw [Hid, tmL, if_pos hb0, P2_all HIN.out]
    have HM := Lib.hid hb0
    have HU := Lib.hid (en_up xss)
    rw [hb0, HSV.out] at HSM
    obtain ⟨N, hN⟩ : ∃ N, N = oP (enN xss) xss.length xss.length := ⟨_, rfl⟩
    obtain ⟨S, hS⟩ : ∃ S, S = matS xss xss.length := ⟨_, rfl⟩
    rw [← hN, ← hS] at hN2
    rw [← hN] at hN24
    rw [← hN] at HTL HIN
    rw [← hS] at HSM
    have hS0 : 0 ≤ S ∧ S ≤ 12 := by omega
    have HN := Lib.hid hN
    clear hS hb0 hN
    go_enter Try.func76, Try.ntmps76
    go_wp2_with fail
    rw [← hW0]
    rw [← hg0] at B0 ⊢
    have ⟨zB0, cB0⟩ := B0
    clear hg0 hW0
    go_wp2_with fail
    refine (HSM.out _ hx0).mono ?_
    rintro e w1 ⟨rfl, hb1⟩
    have ⟨zB1, cB1⟩ := B0.below hb1
    clear cB0
    go_wp2_with (first
      | (at_make; refine wpList_make_own _ rfl _ (.tmp 22) 22 rfl W0.heap.size 3 i0 (.int .i64 0) 1 Try.underlying22 hi hz0 hz1 .i64 .i64 _ N rfl rfl (by omega) (by rw [hz2]; omega) (by unfold maxLen; omega) hb1.size ?_; intro w3 hown3 hgrow3; have b3 : Below W0.heap.size W0 w3 := hb1.grown hgrow3 hb1.size (fun k h => by cases h); have hp3 : OwnI w3 W0.heap.size (.slice (some ⟨w1.heap.size, 0, none⟩) 0 N) [] := hown3; have ⟨zB3, cB3⟩ := B0.below b3; clear cB1)
      | (at_make; have _t := hp3; refine wpList_make_full _ rfl (.tmp 26) (.tmp 26) 37 rfl w3.heap.size 22 j0 (.slice none 0 0) 1 Try.underlying37 hj0 hy0 hy1 .i64 .i64 _ _ xss.length rfl rfl rfl rfl (by rw [hy2]; omega) (by unfold maxLen; omega) (Nat.le_refl _) ?_; intro w4 hown4 hgrow4; have b4 : Below W0.heap.size W0 w4 := b3.grown hgrow4 b3.size (fun k h => by cases h); have ⟨zB4, cB4⟩ := B0.below b4; clear cB3))
    have hp4 := hp3.kept hgrow4 (Classical.em _)
    have hr4 : RowsP w4 w3.heap.size (.slice (some ⟨w3.heap.size, 0, none⟩) xss.length xss.length) (List.replicate xss.length (.slice none 0 0)) (opR (enN xss) xss.length 0 0 0) := by
      rw [← opR_zero]
      exact RowsP.made (by simpa [Value.cells, toList_madeCells_one] using hown4)
    have hlt3 := (hp3.lt w1.heap.size rfl)
    have T0 : StM W0 w4 W0.heap.size w3.heap.size w1.heap.size w3.heap.size N xss.length 0 (P2 (tmF (enN xss) xss.length) 0) _ _ := ⟨hp4, hr4, rfl, opR_len _ _ _ _ _, hlt3.1, hlt3.2, hgrow4.size, b4⟩
    obtain ⟨gp, hgp⟩ : ∃ g, g = w1.heap.size := ⟨_, rfl⟩
    obtain ⟨go, hgo⟩ : ∃ g, g = w3.heap.size := ⟨_, rfl⟩
    rw [← hgp, ← hgo] at T0
    rw [← hgp, ← hgo]
    clear hown3 hgrow3 hown4 hgrow4 hp3 hp4 hr4 hlt3 hgp hgo b3 b4 hb1 zB1 zB3 _t
    go_wp2_with fail
    go_loopw [6, 31] (fun v6 i wr => ∃ (k : Nat) (vl : List Value), k ≤ xss.length ∧ i = .int .i64 k ∧ v6 = .slice (some ⟨gp, 0, none⟩) (oP (enN xss) xss.length k) N ∧ StM W0 wr W0.heap.size go gp go N xss.length (oP (enN xss) xss.length k) (P2 (tmF (enN xss) xss.length) (oP (enN xss) xss.length k)) vl (opR (enN xss) xss.length k 0 0)) (fun _ i _ => xss.length - (intOf i).toNat)
    case atStart => exact ⟨0, _, Nat.zero_le _, rfl, rfl, T0⟩
    case round =>
      clear T0 cB4 zB4
      obtain ⟨k, vl, hk, rfl, rfl, T⟩ := hrel
      have hk24 : oP (enN xss) xss.length k ≤ N := by rw [HN.out]; exact sN_up _ hk
      by_cases hlt : k < xss.length
      · have hx1 := hx0
        obtain ⟨b, off, a', cap', rfl, hbl0, hc0, hr0, hcp⟩ := hx1.row hlt
        have hbl : b < wr.heap.size := by have := T.b.size; omega
        have hc := (T.b.cell (p := ⟨b, off + k, none⟩) hbl0).trans hc0
        have hrow := mxB_len HM.out hlt
        have HR0 := Lib.hid hr0
        have HEN := Lib.hid (fun j (hj : j < xss.length) => en_at HM.out hlt hj)
        have HNX : Hid (oP (enN xss) xss.length k + rS (enN xss) k xss.length = cP (enN xss) xss.length k) := rfl
        rw [hrow] at hc
        clear hc0 hr0 hx1
        go_wp2_with fail
        go_loopw [6, 38] (fun v6 i wi => ∃ (j : Nat) (vl : List Value), j ≤ xss.length ∧ i = .int .i64 j ∧ v6 = .slice (some ⟨gp, 0, none⟩) (oP (enN xss) xss.length k + rS (enN xss) k j) N ∧ StM W0 wi W0.heap.size go gp go N xss.length (oP (enN xss) xss.length k + rS (enN xss) k j) (P2 (tmF (enN xss) xss.length) (oP (enN xss) xss.length k + rS (enN xss) k j)) vl (opR (enN xss) xss.length k j 0)) (fun _ i _ => xss.length - (intOf i).toNat)
        case atStart => exact ⟨0, vl, Nat.zero_le _, rfl, rfl, T⟩
        case round =>
          clear T hc hbl vl
          obtain ⟨j, vl, hj, rfl, rfl, T⟩ := hrel
          by_cases hjl : j < xss.length
          · obtain ⟨b', off', rfl, hbl', hc'⟩ := (HR0.out.below T.b).cell j (by rw [hrow]; exact hjl)
            have hce := HEN.out j hjl
            rw [show nth (rowL xss k) j = atM xss k j from rfl, hce] at hc'
            have hj1 : (j : Int) < (xss.length : Int) := by omega
            have HRS : Hid (rS (enN xss) k (j+1) = rS (enN xss) k j + enN xss k j) := rfl
            have HNJ := Lib.hid (opR_nextj (enN xss) xss.length k j)
            have HOP : Hid (∀ t, t < enN xss k j → tmF (enN xss) xss.length (oP (enN xss) xss.length k + rS (enN xss) k j + t) = cP (enN xss) xss.length j + cS (enN xss) j k + t) := fun t ht => tm_op hlt hjl ht
            have HCL : Hid (∀ t, t < enN xss k j → tmF (enN xss) xss.length (cP (enN xss) xss.length j + cS (enN xss) j k + t) = oP (enN xss) xss.length k + rS (enN xss) k j + t) := fun t ht => tm_cl hlt hjl ht
            have HLT : Hid (∀ t, t < enN xss k j → _) := fun t ht => tm_lt (d := xss.length) HU.out hlt hjl ht
            have HJN : Hid (oP (enN xss) xss.length (j+1) ≤ N) := by rw [Hid, HN.out]; exact sN_up _ (by omega)
            obtain ⟨E, hE⟩ : ∃ E, E = enN xss k j := ⟨_, rfl⟩
            rw [← hE] at hc' HRS HNJ HOP HLT HCL
            have HEE : Hid (E ≤ 12) := by
              have := mxB_num HM.out hlt hjl
              have := HEN.out j hjl
              rw [Hid, hE]; omega
            have hE12 := HEE.out
            clear hce hE
            go_wp2_with fail
            go_loopw [6, 44] (fun v6 i wi => ∃ (t : Nat) (vl : List Value), t ≤ E ∧ i = .int .i64 t ∧ v6 = .slice (some ⟨gp, 0, none⟩) (oP (enN xss) xss.length k + rS (enN xss) k j + t) N ∧ StM W0 wi W0.heap.size go gp go N xss.length (oP (enN xss) xss.length k + rS (enN xss) k j + t) (P2 (tmF (enN xss) xss.length) (oP (enN xss) xss.length k + rS (enN xss) k j + t)) vl (opR (enN xss) xss.length k j t)) (fun _ i _ => E - (intOf i).toNat)
            case atStart => exact ⟨0, vl, Nat.zero_le _, rfl, rfl, T⟩
            case round =>
              clear T hc' vl
              obtain ⟨t, vl, ht, rfl, rfl, T⟩ := hrel
              by_cases htl : t < E
              · have he := HOP.out t htl
                have he2 := HCL.out t htl
                have ⟨l1, l2, l3⟩ := HLT.out t htl
                have l4 := HJN.out
                obtain ⟨X, hX⟩ : ∃ X, X = oP (enN xss) xss.length k + rS (enN xss) k j + t := ⟨_, rfl⟩
                rw [← hX] at T he2 he l1 ⊢
                have HOS := Lib.hid (opR_set (i := k) (t := t) hjl he2)
                have HP2 : Hid (P2 (tmF (enN xss) xss.length) X ++ [0] = P2 (tmF (enN xss) xss.length) (X+1)) := P2_open HIN.out (by omega) (by rw [he]; omega)
                have HX1 : Hid (oP (enN xss) xss.length k + rS (enN xss) k j + (t+1) = X + 1) := by rw [Hid]; omega
                have hXN : X < N := by omega
                have hrl : ((rowL (opR (enN xss) xss.length k j t) j).length : Nat) ≤ 24 := by
                  have h6 : cS (enN xss) j (k+1) = cS (enN xss) j k + enN xss k j := rfl
                  have h7 : cS (enN xss) j (k+1) ≤ cS (enN xss) j xss.length := sN_up _ (by omega)
                  have h8 : oP (enN xss) xss.length (j+1) = oP (enN xss) xss.length j + (rS (enN xss) j xss.length + cS (enN xss) j xss.length) := rfl
                  have h9 : cP (enN xss) xss.length j = oP (enN xss) xss.length j + rS (enN xss) j xss.length := rfl
                  rw [opR_row _ _ _ _ hjl, fmap_len, ctF, if_neg (by omega), if_pos rfl]
                  omega
                clear hX he he2 l1 l2 l3 l4
                have hlr := T.lr
                obtain ⟨gq, eq, hq0, hq1, hq2, hq3⟩ := T.r.outer (k := j) (by rw [hlr]; exact hjl)
                simp only [Option.some.injEq, Addr.mk.injEq, and_true] at eq
                obtain rfl := eq
                have hro := T.r.o.row j (by rw [hlr]; exact hjl)
                obtain ⟨ra, rc, er⟩ := hro.form
                rw [er] at hq2
                have ER := Lib.hid er
                have HT := Lib.hid T
                have hbsz := T.bs
                have hpl := T.l
                rw [er] at hro
                clear er T
                go_wp2_with (first
                  | (at_builtin; have _g := hro; refine push_at rfl _ _ rfl (z := (X : Int)) rfl hro rfl (by omega) hbsz ?_; intro v' w3 o3 hg3 hat3; obtain ⟨va, vc, ev⟩ := o3.form; rw [List.length_append, List.length_singleton] at ev; subst ev; have ⟨⟨z, hz⟩, hf, T3⟩ := HT.out.grow hjl (by rw [ER.out]; exact hg3) o3 (by rw [ER.out]; exact hat3); rw [HOS.out] at T3; have HT3 := Lib.hid T3; clear hq2 hq3 hro T3 o3 hg3 hat3)
                  | (at_builtin; have _g := HT3; refine wpList_append_fits _ rfl _ _ 22 rfl W0.heap.size 3 i0 1 Try.underlying22 hi hz1 gp X N ((P2 (tmF (enN xss) xss.length) X).map (Value.int .i64)) rfl (by have h := HT3.out.o.alloc (.cells #[.int .i64 0] 3); unfold OwnI at h; rw [HT3.out.l] at h; exact h) ⟨w3.heap.size, 0, none⟩ 1 1 [.int .i64 0] rfl rfl (by have h := cell_one_new (w3.setCell ⟨go, j, none⟩ (.slice va ((rowL (opR (enN xss) xss.length k j t) j).length + 1) vc)) (.int .i64 0) 3; rw [World.size_setCell] at h; exact h) (by intro u hu; simp at hu; subst hu; rfl) (by omega) ?_; intro w5 ho5 hg5; have T5 := HT3.out.push (ps' := P2 (tmF (enN xss) xss.length) (X+1)) (grown_alloc_set hg5) (by rw [← HP2.out]; unfold OwnI; rw [List.length_append, HT3.out.l, List.map_append]; exact ho5) (P2_len _ _); have HT5 := Lib.hid T5; clear T5 ho5 hg5))
                go_roundw
                case rel => exact ⟨t + 1, _, by omega, by go_num, by rw [HX1.out], by rw [HX1.out]; exact HT5.out⟩
                case measure => simp [intOf]; omega
              · obtain rfl : t = E := by omega
                go_wp2_with fail
                go_roundw
                case rel => exact ⟨j + 1, vl, by omega, by go_num, by rw [HRS.out, ← Nat.add_assoc], by rw [HRS.out, ← HNJ.out, ← Nat.add_assoc]; exact T⟩
                case measure => simp [intOf]; omega
          · obtain rfl : j = xss.length := by omega
            rw [HNX.out] at T ⊢
            have HCK : Hid (cP (enN xss) xss.length k + cS (enN xss) k xss.length = oP (enN xss) xss.length (k+1)) := by
              have h8 : oP (enN xss) xss.length (k+1) = oP (enN xss) xss.length k + (rS (enN xss) k xss.length + cS (enN xss) k xss.length) := rfl
              have h9 := HNX.out
              rw [Hid]; omega
            have HKN : Hid (oP (enN xss) xss.length (k+1) ≤ N) := by rw [Hid, HN.out]; exact sN_up _ (by omega)
            have hkn := HKN.out
            rw [← HCK.out] at hkn
            have HBK : Hid (∀ s, s < cS (enN xss) k xss.length → tmF (enN xss) xss.length (cP (enN xss) xss.length k + s) < cP (enN xss) xss.length k) := fun s hs => tm_back HU.out hlt (by omega) (by rw [← HCK.out]; omega)
            have HNI := Lib.hid (opR_nexti (enN xss) xss.length k)
            have HFR := Lib.hid (opR_full (d := xss.length) HU.out hlt)
            have hlr := T.lr
            obtain ⟨gq, eq, hq0, hq1, hq2, hq3⟩ := T.r.outer (k := k) (by rw [hlr]; exact hlt)
            simp only [Option.some.injEq, Addr.mk.injEq, and_true] at eq
            obtain rfl := eq
            have hro := T.r.o.row k (by rw [hlr]; exact hlt)
            rw [HFR.out] at hro
            obtain ⟨ra, rc, er⟩ := hro.form
            rw [fmap_len] at er
            rw [er] at hq2
            have ER := Lib.hid er
            obtain ⟨Y, hY⟩ : ∃ Y, Y = cP (enN xss) xss.length k := ⟨_, rfl⟩
            obtain ⟨M, hM⟩ : ∃ M, M = cS (enN xss) k xss.length := ⟨_, rfl⟩
            rw [← hY] at HCK HBK T hkn HFR ⊢
            rw [← hM] at HCK HBK hkn hq2 ER HFR
            clear hY hM er hro
            go_wp2_with fail
            go_loopw [6, 67] (fun v6 i wi => ∃ s : Nat, s ≤ M ∧ i = .int .i64 s ∧ v6 = .slice (some ⟨gp, 0, none⟩) (Y + s) N ∧ StM W0 wi W0.heap.size go gp go N xss.length (Y + s) (P2 (tmF (enN xss) xss.length) (Y + s)) vl (opR (enN xss) xss.length k xss.length 0)) (fun _ i _ => M - (intOf i).toNat)
            case atStart => exact ⟨0, Nat.zero_le _, rfl, rfl, T⟩
            case round =>
              clear T hq2 hq3
              obtain ⟨s, hs, rfl, rfl, T⟩ := hrel
              by_cases hsl : s < M
              · have hro := T.r.o.row k (by rw [hlr]; exact hlt)
                rw [HFR.out, ER.out] at hro
                have hrl : (fmap (fun s => (tmF (enN xss) xss.length (Y + s) : Int)) M).length = M := fmap_len _ _
                obtain ⟨gr, rfl, hr0, hr1⟩ := hro.head (by omega)
                have ⟨cr, _⟩ := hro.at' hrl.symm (i := s) (by omega)
                rw [fmap_nth _ hsl] at cr
                obtain ⟨X, hX⟩ : ∃ X, X = tmF (enN xss) xss.length (Y + s) := ⟨_, rfl⟩
                have hXY := HBK.out s hsl
                rw [← hX] at cr hXY
                obtain ⟨L, hL⟩ : ∃ L, L = Y + s := ⟨_, rfl⟩
                have HL1 : Hid (Y + (s + 1) = L + 1) := by rw [Hid]; omega
                have HP2 : Hid ((P2 (tmF (enN xss) xss.length) L).set X (L : Int) ++ [(X : Int)] = P2 (tmF (enN xss) xss.length) (L+1)) := by
                  have := P2_close (F := tmF (enN xss) xss.length) (N := N) (L := L) HIN.out (by omega) (by rw [hL, ← hX]; omega)
                  rw [hL, ← hX, ← hL] at this
                  exact this
                rw [← hL] at T ⊢
                have hLN : L < N := by omega
                have hXL : X < L := by omega
                have ⟨cp, fp⟩ := T.o.at' T.l.symm (i := X) (by rw [T.l]; exact hXL)
                have HT1 := Lib.hid (T.putP X (L : Int))
                have HLN : Hid (((P2 (tmF (enN xss) xss.length) L).set X (L : Int)).length = L) := HT1.out.l
                have hrb := T.b.size
                clear hX hXY hL hro T
                go_wp2_with (at_builtin; refine wpList_append_fits _ rfl _ _ 22 rfl W0.heap.size 3 i0 1 Try.underlying22 hi hz1 gp L N (((P2 (tmF (enN xss) xss.length) L).set X (L : Int)).map (Value.int .i64)) rfl (by have h := HT1.out.o.alloc (.cells #[.int .i64 (X : Int)] 3); unfold OwnI at h; rw [HT1.out.l] at h; exact h) ⟨wr.heap.size, 0, none⟩ 1 1 [.int .i64 (X : Int)] rfl rfl (by have h := cell_one_new (wr.setCell ⟨gp, X, none⟩ (.int .i64 (L : Int))) (.int .i64 (X : Int)) 3; rw [World.size_setCell] at h; exact h) (by intro u hu; simp at hu; subst hu; rfl) (by omega) ?_; intro w5 ho5 hg5; have T5 := HT1.out.push (ps' := P2 (tmF (enN xss) xss.length) (L+1)) (grown_alloc_set hg5) (by rw [← HP2.out]; unfold OwnI; rw [List.length_append, HLN.out, List.map_append]; exact ho5) (P2_len _ _); have HT5 := Lib.hid T5; clear T5 ho5 hg5)
                go_roundw
                case rel => exact ⟨s + 1, by omega, by go_num, by rw [HL1.out], by rw [HL1.out]; exact HT5.out⟩
                case measure => simp [intOf]; omega
              · obtain rfl : s = M := by omega
                rw [HCK.out, HNI.out] at T
                rw [HCK.out]
                go_wp2_with fail
                go_roundw
                case rel => exact ⟨k + 1, vl, by omega, by go_num, rfl, T⟩
                case measure => simp [intOf]; omega
      · obtain rfl : k = xss.length := by omega
        rw [← HN.out] at T ⊢
        have HTT : Hid ((tmL xss).length = N) := by rw [Hid, HTL.out, P2_len]
        have ho := T.o
        have hbb := T.b
        clear T
        go_wp2_with fail
        refine bodyPost_ret (v := .tuple #[.slice (some ⟨gp, 0, none⟩) N N, .bool true]) (by simp [results, Try.results76, go_sem]) rfl ?_
        exact ⟨some ⟨gp, 0, none⟩, N, by rw [HTT.out], by rw [HTT.out, HTL.out]; exact ho.mono bw0.size, bw0.trans (hbb.mono bw0.size)⟩

set_option maxRecDepth 100000 in
set_option maxHeartbeats 1000000 in
theorem iLT_any (n : Int) (w : World) (hn : -9223372036854775808 ≤ n ∧ n ≤ 9223372036854775807) :
    Calls Try.prog 44 #[.int .i64 n] w fun e w' => ∃ a c vl, e = .returned (.tuple #[.slice a (ltL n).length c, .bool (laB n)]) ∧ RowsP w' w.heap.size (.slice a (ltL n).length c) vl (ltL n) ∧ Below w.heap.size w w' := by
  obtain ⟨j0, hj0, hy0, hy1, hy2⟩ := info_parts infoRow0
  have HNO : Hid (laB n = false → laL n = []) := fun hh => by simp [laL, hh]
  have HLL := Lib.hid (laL_le n)
  have HLN := Lib.hid (lmL_len n)
  cases hb : laB n
  · have HL0 := HNO.out hb
    have HB := Lib.hid hb
    clear hb
    go_enter Try.func44, Try.ntmps44
    go_wp2_with fail
    refine (iLM_any n _ hn).mono ?_
    rintro e w1 ⟨a1, c1, vl1, lo1, hi1, rfl, hro, hb1⟩
    rw [HB.out, HL0]
    go_wp2_with fail
    refine bodyPost_ret (v := .tuple #[.slice none 0 0, .bool false]) (by simp [results, Try.results44, go_sem]) rfl ?_
    have e0 : ltL n = [] := by simp [ltL, lmL, HNO.out HB.out]
    exact ⟨none, 0, [], by simp [e0], by rw [e0]; exact RowsP.nil _ _, hb1⟩
  · have HB := Lib.hid hb
    have HMX : Hid (∀ k, k < (lmL n).length → mxB (mxAt (lmL n) k) = true) := fun k hk => lmL_mx hk
    have HSZ : Hid (∀ k, k < (lmL n).length → (mxAt (lmL n) k).length + totS (mxAt (lmL n) k) (mxAt (lmL n) k).length ≤ 1048576) := fun k hk => by have := lmL_size k hk; omega
    clear hb
    go_enter Try.func44, Try.ntmps44
    go_wp2_with fail
    refine (iLM_any n _ hn).mono ?_
    rintro e w1 ⟨a1, c1, vl1, lo1, hi1, rfl, hro, hb1⟩
    rw [HB.out, ← HLN.out]
    rw [← HLN.out] at HLL
    have HX := Lib.hid (hro.rd (by have := HLL.out; omega))
    have hs1 := hb1.size
    obtain ⟨S, hS⟩ : ∃ S, S = lmL n := ⟨_, rfl⟩
    have HSL := Lib.hid hS
    rw [← hS] at HX HMX HLL HSZ ⊢
    have hll := HLL.out
    have b1 := hb1
    clear hro hS hb1 HNO
    go_wp2_with (at_make; refine wpList_make_full _ rfl (.tmp 17) (.tmp 17) 37 rfl w1.heap.size 22 j0 (.slice none 0 0) 1 Try.underlying37 hj0 hy0 hy1 .i64 .i64 _ _ S.length rfl rfl rfl rfl (by rw [hy2]; omega) (by unfold maxLen; omega) (Nat.le_refl _) ?_; intro w2 hown hgrow)
    have b2 : Below w1.heap.size w1 w2 := (Below.refl _ _).grown hgrow (Nat.le_refl _) (fun k h => by cases h)
    have hm0 : RowsP w2 w1.heap.size (.slice (some ⟨w1.heap.size, 0, none⟩) S.length S.length) (List.replicate S.length (.slice none 0 0)) ((S.map tmL).take 0 ++ List.replicate (S.length - 0) []) := by
      simpa using RowsP.made (by simpa [Value.cells, toList_madeCells_one] using hown)
    have HM0 := Lib.hid hm0
    clear hown hgrow hm0
    go_wp2_with fail
    go_loopw [21] (fun i wr => ∃ (k : Nat) (vl : List Value), k ≤ S.length ∧ i = .int .i64 k ∧ RowsP wr w1.heap.size (.slice (some ⟨w1.heap.size, 0, none⟩) S.length S.length) vl ((S.map tmL).take k ++ List.replicate (S.length - k) []) ∧ Below w1.heap.size w1 wr) (fun i _ => S.length - (intOf i).toNat)
    case atStart => exact ⟨0, _, Nat.zero_le _, rfl, HM0.out, b2⟩
    case round =>
      obtain ⟨k, vl, hk, rfl, hro, hb⟩ := hrel
      have hbs := hb.size
      by_cases hlt : k < S.length
      · have k1 : (k : Int) < (S.length : Int) := by omega
        obtain ⟨b, off, a', cap', rfl, hbl, hc, hr⟩ := (HX.out.below hb).row k hlt
        have HTK : Hid (((S.map tmL).take k ++ List.replicate (S.length - k) []).set k (tmL (mxAt S k)) = (S.map tmL).take (k+1) ++ List.replicate (S.length - (k+1)) []) := by
          rw [Hid, take_map_succ (f := tmL) (mxAt_get hlt), List.set_append_right _ _ (by simp; omega)]
          rw [show k - ((S.map tmL).take k).length = 0 by simp; omega, show S.length - k = (S.length - (k+1)) + 1 by omega, List.replicate_succ, List.set_cons_zero]
          simp
        have hgg : w1.heap.size < wr.heap.size := (hro.o.lt w1.heap.size rfl).2
        have HL9 : Hid (((S.map tmL).take k ++ List.replicate (S.length - k) []).length = S.length) := by simp [Hid]; omega
        have HM := HMX.out k hlt
        have hsz := HSZ.out k hlt
        obtain ⟨M, hM⟩ : ∃ M, M = mxAt S k := ⟨_, rfl⟩
        rw [← hM] at HTK HM hr hc hsz
        have HC := Lib.hid (fun W (h : RdC W a' M) => iMtMx_any a' M cap' W h hsz)
        unfold GotI at HC
        rw [HM] at HC
        have HRO := Lib.hid hro
        have HR := Lib.hid hr
        have hL0 := mxB_small HM
        generalize hLr : M.length = lr at hc HC hL0
        obtain ⟨wB, hwB⟩ : ∃ x : World, x = wr.alloc (.cells #[.slice a' lr cap'] 39) := ⟨_, rfl⟩
        have HA1 : Hid (Below wr.heap.size wr wB) := by rw [Hid, hwB]; exact (Below.refl _ _).alloc (Nat.le_refl _) _
        have hV := Var1.new wr (.slice a' lr cap') 39
        have hcell : wB.cell? ⟨wr.heap.size, 0, none⟩ = some (.slice a' lr cap') := by rw [hwB]; exact hV.1.2
        have HWB := Lib.hid hwB
        have hsB : wr.heap.size ≤ wB.heap.size := HA1.out.size
        clear hro hM hr HM hV hwB hsz
        go_wp2_with fail
        rw [← HWB.out]
        go_wp2_with fail
        refine (HC.out _ (HR.out.below HA1.out)).mono ?_
        rintro e w2 ⟨a2, c2, rfl, hr2, hb2⟩
        have hs2 := hb2.size
        have bq := HA1.out.trans (hb2.mono hsB)
        have hro2 := HRO.out.below bq (Nat.le_refl _)
        have hcut := HRO.out.blk
        have hur := hr2.lt
        obtain ⟨g9, c9, e9, hg1, hg2, ⟨z9, hz9⟩, hf9, hnew⟩ := hro2.putRow (k := k) (r := tmL M) (by rw [HL9.out]; exact hlt) (hr2.mono (by omega)) (fun c hc => by
          have h1 := hur c hc
          refine ⟨fun h2 => ?_, fun j hj hne h2 => ?_⟩
          · have := hcut.1 c h2; omega
          · have := hcut.2 j hj c h2; omega)
        rw [HTK.out] at hnew
        simp only [Value.slice.injEq, Option.some.injEq, Addr.mk.injEq, and_true] at e9
        obtain ⟨e9a, e9b, e9c⟩ := e9
        subst e9a
        have b6 := hb.trans ((bq.mono hbs).setCell (p := ⟨w1.heap.size, k, none⟩) (Nat.le_refl _) (.slice a2 (tmL M).length c2))
        have H6 := Lib.hid (And.intro hnew b6)
        clear hr2 hb2 bq hro2 hcut hur hnew b6 e9b e9c HRO HC
        go_wp2_with fail
        go_roundw
        case rel => exact ⟨k + 1, _, by omega, by go_num, H6.out.1, H6.out.2⟩
        case measure => simp [intOf]; omega
      · obtain rfl : k = S.length := by omega
        have HRD := Lib.hid hro
        clear hro
        go_wp2_with fail
        refine bodyPost_ret (v := .tuple #[.slice (some ⟨w1.heap.size, 0, none⟩) S.length S.length, .bool true]) (by simp [results, Try.results44, go_sem]) rfl ?_
        have e9 : (ltL n).length = S.length := by rw [HSL.out, ltL]; simp
        refine ⟨_, _, vl, by rw [e9], ?_, b1.trans (hb.mono hs1)⟩
        have h8 := HRD.out.mono hs1
        rw [List.take_of_length_le (by simp), Nat.sub_self, List.replicate_zero, List.append_nil] at h8
        rw [e9, show ltL n = S.map tmL by rw [HSL.out]; rfl]
        exact h8

def eqL (xs ys : List Int) : Bool := decide (xs = ys)
theorem eqIntS_any (a b : Option Addr) (xs ys : List Int) (ca cb : Nat) (w : World) (hx : Rd w a xs) (hy : Rd w b ys) :
    Calls Try.prog 31 #[.slice a xs.length ca, .slice b ys.length cb] w fun e w' => e = .returned (.bool (eqL xs ys)) ∧ Below w.heap.size w w' := by
  have hlx := hx.len
  have hly := hy.len
  by_cases hl : xs.length = ys.length
  · have hl' : ((xs.length : Int) != (ys.length : Int)) = false := by simp [hl]
    go_enter Try.func31, Try.ntmps31
    have HL := Lib.hid hl
    clear hl
    go_wp2_with fail
    go_loopw [5] (fun i wr => ∃ k : Nat, k ≤ xs.length ∧ i = .int .i64 k ∧ xs.take k = ys.take k ∧ Below w.heap.size w wr) (fun i _ => xs.length - (intOf i).toNat)
    case atStart => exact ⟨0, Nat.zero_le _, rfl, rfl, Below.refl _ _⟩
    case round =>
      obtain ⟨k, hk, rfl, htk, hb⟩ := hrel
      have HT := Lib.hid htk
      clear htk
      by_cases hlt : k < xs.length
      · have hlt' : k < ys.length := by rw [← HL.out]; exact hlt
        obtain ⟨b1, o1, rfl, hb1, hc1⟩ := (hx.below hb).cell k hlt
        obtain ⟨b2, o2, rfl, hb2, hc2⟩ := (hy.below hb).cell k hlt'
        by_cases he : nth xs k = nth ys k
        · have he' : (nth xs k != nth ys k) = false := by simp [he]
          have HE := Lib.hid he
          clear he
          go_wp2_with fail
          go_quiet (fail)
          go_wp2_with fail
          go_roundw
          case rel =>
            refine ⟨k + 1, by omega, by go_num, ?_, by exact hb.trans (Joins.below_draws _ _ _)⟩
            rw [List.take_succ_eq_append_getElem hlt, List.take_succ_eq_append_getElem hlt', HT.out, ← nth_get, ← nth_get, HE.out]
          case measure => simp [intOf]; omega
        · have he' : (nth xs k != nth ys k) = true := by simp [he]
          have hne : eqL xs ys = false := by
            simp only [eqL, decide_eq_false_iff_not]
            intro e
            subst e
            exact he rfl
          have HN := Lib.hid hne
          clear he hne
          go_wp2_with fail
          go_quiet (fail)
          go_wp2_with fail
          go_ret
          exact ⟨ret_bool HN.out.symm, hb.trans (Joins.below_draws _ _ _)⟩
      · go_wp2_with fail
        go_ret
        refine ⟨ret_bool ?_, hb⟩
        have h1 := HT.out
        rw [List.take_of_length_le (by omega), List.take_of_length_le (by rw [← HL.out]; omega)] at h1
        simp [eqL, h1]
  · have hl' : ((xs.length : Int) != (ys.length : Int)) = true := by simp; omega
    have hne : eqL xs ys = false := by
      simp only [eqL, decide_eq_false_iff_not]
      intro e
      exact hl (by rw [e])
    have HN := Lib.hid hne
    clear hl hne
    go_enter Try.func31, Try.ntmps31
    go_wp2_with fail
    go_ret
    exact ⟨ret_bool HN.out.symm, Below.refl _ _⟩
theorem eqL_self (xs : List Int) : eqL xs xs = true := by simp [eqL]

theorem eqIntSS_same (a b : Option Addr) (xss : List (List Int)) (ca cb : Nat) (w : World) (hx : RdS w a xss) (hy : RdS w b xss) :
    Calls Try.prog 45 #[.slice a xss.length ca, .slice b xss.length cb] w fun e w' => e = .returned (.bool true) ∧ Below w.heap.size w w' := by
  have hlen := hx.len
  go_enter Try.func45, Try.ntmps45
  go_wp2_with fail
  go_loopw [5] (fun i wr => ∃ k : Nat, k ≤ xss.length ∧ i = .int .i64 k ∧ Below w.heap.size w wr) (fun i _ => xss.length - (intOf i).toNat)
  case atStart => exact ⟨0, Nat.zero_le _, rfl, Below.refl _ _⟩
  case round =>
    obtain ⟨k, hk, rfl, hb⟩ := hrel
    by_cases hlt : k < xss.length
    · obtain ⟨b1, off1, a1, cap1, rfl, hbl1, hc1, hr1⟩ := (hx.below hb).row k hlt
      obtain ⟨b2, off2, a2, cap2, rfl, hbl2, hc2, hr2⟩ := (hy.below hb).row k hlt
      have k1 : (k : Int) < (xss.length : Int) := by omega
      have HE : Hid (eqL (rowL xss k) (rowL xss k) = true) := eqL_self _
      go_wp2_with fail
      go_region_held3 (fun w' => w'.cell? ⟨b1, off1 + k, none⟩ = some (.slice a1 (rowL xss k).length cap1) ∧ w'.cell? ⟨b2, off2 + k, none⟩ = some (.slice a2 (rowL xss k).length cap2))
        (first | exact ⟨(ht3.cell (p := ⟨b1, off1 + k, none⟩) hbl1).trans hc1, (ht3.cell (p := ⟨b2, off2 + k, none⟩) hbl2).trans hc2⟩ | go_keep)
        (first | (go_at_call 31; refine (eqIntS_any _ _ _ _ _ _ _ (hr1.below (Joins.below_draws _ _ _)) (hr2.below (Joins.below_draws _ _ _))).mono ?_; rw [HE.out]; rintro e w3 ⟨rfl, hb3⟩; have ht3 : Below wr.heap.size wr w3 := (Joins.below_draws _ _ _).trans hb3))
      have bw3 := hb.trans (ht3.mono hb.size)
      clear hb3 ht3 hc1 hc2
      go_wp2_with fail
      go_roundw
      case rel => exact ⟨k + 1, by omega, by go_num, bw3⟩
      case measure => simp [intOf]; omega
    · obtain rfl : k = xss.length := by omega
      go_wp2_with fail
      go_ret
      exact ⟨rfl, hb⟩

theorem markIntS_any (a : Option Addr) (xs : List Int) (cap : Nat) (k : Int) (B : Nat) (w : World) (h0 : 0 ≤ k) (h1 : k ≤ 1099511627776) (hn : xs.length ≤ 1048576) (ho : OwnI w B (.slice a xs.length cap) xs) :
    Calls Try.prog 32 #[.slice a xs.length cap, .int .i64 k] w fun e w' => e = .returned (.int .i64 (k + xs.length)) ∧ OwnI w' B (.slice a xs.length cap) (marks k xs.length) ∧ w.grownBy w' (Value.slice a xs.length cap).ownBlock := by
  go_enter Try.func32, Try.ntmps32
  go_wp2_with fail
  go_loopw [1, 5] (fun k' i wr => ∃ j : Nat, j ≤ xs.length ∧ i = .int .i64 j ∧ k' = .int .i64 (k + j) ∧ wr.ownsRow B 3 1 (.slice a xs.length cap) xs.length ((marks k j ++ xs.drop j).map (Value.int .i64)) ∧ w.grownBy wr (Value.slice a xs.length cap).ownBlock) (fun _ i _ => xs.length - (intOf i).toNat)
  case atStart => exact ⟨0, Nat.zero_le _, rfl, by simp, by (have e : marks k 0 ++ xs.drop 0 = xs := by simp [marks]); rw [e]; exact ho, World.grownBy.refl _ _⟩
  case round =>
    obtain ⟨j, hj, rfl, rfl, hown, hg⟩ := hrel
    by_cases hlt : j < xs.length
    · obtain ⟨g, rfl⟩ : ∃ g, a = some ⟨g, 0, none⟩ := by
        rcases hown.2 with ⟨e, h⟩ | ⟨g, c, cur, e, _⟩
        · omega
        · simp only [Value.slice.injEq] at e
          exact ⟨g, e.1⟩
      have hst := World.ownsRow.stored hown j (.int .i64 (k + j))
      rw [mark_step k xs j hlt] at hst
      have hcc := World.ownsRow.cellAt hown j (by omega)
      have hfr := World.ownsRow.frozenAt hown j
      have hcc' : ∃ u, wr.cell? ⟨g, j, none⟩ = some u := by
        rw [hcc]
        exact ⟨_, List.getElem?_eq_getElem (by simp [marks_len]; omega)⟩
      obtain ⟨u, hu⟩ := hcc'
      have Hst := Lib.hid hst
      have Hg := Lib.hid (grown_trans hg hst.2)
      clear hst hcc hown hg
      go_wp2
      go_roundw
      case rel => exact ⟨j + 1, by omega, by go_num, by go_num, Hst.out.1, Hg.out⟩
      case measure => simp [intOf]; omega
    · obtain rfl : j = xs.length := by omega
      go_wp2
      go_ret
      refine ⟨rfl, ?_, hg⟩
      have e : marks k xs.length ++ xs.drop xs.length = marks k xs.length := by simp
      rw [e] at hown
      show World.ownsRow _ _ _ _ _ _ _
      rw [marks_len]
      exact hown

set_option maxRecDepth 100000 in
theorem markSS_any (a : Option Addr) (n cap : Nat) (vl : List Value) (xss : List (List Int)) (k : Int) (B : Nat) (w : World) (hnl : n = xss.length) (h0 : 0 ≤ k) (h1 : k ≤ 1048576) (hn : xss.length + totS xss xss.length ≤ 1048576) (ho : RowsP w B (.slice a n cap) vl xss) (hBw : B ≤ w.heap.size) :
    Calls Try.prog 46 #[.slice a n cap, .int .i64 k] w fun e w' => e = .returned (.int .i64 (k + ((totS xss xss.length : Nat) : Int))) ∧ RowsP w' B (.slice a n cap) vl (mkS xss k) ∧ Below B w w' := by
  subst hnl
  have HO := Lib.hid ho
  have hmax : xss.length ≤ 1048576 := by omega
  go_enter Try.func46, Try.ntmps46
  clear ho
  go_wp2_with fail
  go_loopw [1, 5] (fun k' i wr => ∃ j : Nat, j ≤ xss.length ∧ i = .int .i64 j ∧ k' = .int .i64 (k + ((totS xss j : Nat) : Int)) ∧ Below B w wr ∧ wr.ownsRow B 22 1 (.slice a xss.length cap) xss.length vl ∧ Hid (∀ i, i < xss.length → OwnI wr B (valAt vl i) (if i < j then rowL (mkS xss k) i else rowL xss i))) (fun _ i _ => xss.length - (intOf i).toNat)
  case atStart => exact ⟨0, Nat.zero_le _, rfl, by simp [totS], Below.refl _ _, HO.out.o.own, fun i hi => by rw [if_neg (by omega)]; exact HO.out.o.row i hi⟩
  case round =>
    obtain ⟨j, hj, rfl, rfl, hb, hown, HA⟩ := hrel
    by_cases hlt : j < xss.length
    · have hoj := HA.out j hlt
      rw [if_neg (by omega)] at hoj
      have hrt := row_tot (xss := xss) hlt
      have hmn := totS_mono (xss := xss) (j := j) (k := xss.length) (by omega)
      have HN : Hid (totS xss (j+1) = totS xss j + (rowL xss j).length) := rfl
      have k1 : (j : Int) < (xss.length : Int) := by omega
      have hvl := HO.out.o.vlen
      have hcj : ∃ g, a = some ⟨g, 0, none⟩ ∧ wr.cell? ⟨g, j, none⟩ = some (valAt vl j) ∧ g < wr.heap.size := by
        rcases hown.2 with ⟨e, h00⟩ | ⟨g, cap', cur, e, hbg, hg, _⟩
        · omega
        · simp only [Value.slice.injEq] at e
          obtain ⟨rfl, _, rfl⟩ := e
          exact ⟨g, rfl, by rw [World.ownsRow.cellAt hown j (by omega), valAt_get (by omega)], (Array.getElem?_eq_some_iff.1 hg).1⟩
      obtain ⟨g, rfl, hc, hgl⟩ := hcj
      have HAP := Lib.hid (HO.out.o.apart j hlt)
      have HPR := Lib.hid (fun i (hi : i < xss.length) (hne : i ≠ j) c (hc : (valAt vl j).ownBlock = some c) (hc2 : (valAt vl i).ownBlock = some c) => show False from by
        rcases Nat.lt_or_gt_of_ne hne with h | h
        · exact HO.out.pair i j h hlt c hc2 hc
        · exact HO.out.pair j i h hi c hc hc2)
      obtain ⟨vj, hvj⟩ : ∃ vj, vj = valAt vl j := ⟨_, rfl⟩
      have HVJ := Lib.hid hvj
      rw [← hvj] at hc hoj HAP HPR
      clear hvj hvl
      obtain ⟨aj, capj, rfl⟩ := hoj.form
      have hro : (rowL xss j).length ≤ 1048576 := by omega
      go_wp2_with fail
      refine (markIntS_any _ _ _ _ _ _ (by omega) (by omega) hro hoj).mono ?_
      rintro e w2 ⟨rfl, ho2, hg2⟩
      have hU := hoj.lt
      have b2 := hb.trans (below_of_grown hg2 (fun c e => (hU c e).1) (by have := hb.size; omega))
      have own2 : w2.ownsRow B 22 1 (.slice (some ⟨g, 0, none⟩) xss.length cap) xss.length vl := World.ownsRow.kept hown hg2 (own_ne (fun c e e2 => HAP.out c e2 e))
      have HA2 : Hid (∀ i, i < xss.length → OwnI w2 B (valAt vl i) (if i < j + 1 then rowL (mkS xss k) i else rowL xss i)) := by
        intro i hi
        by_cases e : i = j
        · subst e
          rw [if_pos (by omega), mkS_row hi, ← HVJ.out]
          exact ho2
        · have h3 := HA.out i hi
          have h4 : OwnI w2 B (valAt vl i) (if i < j then rowL (mkS xss k) i else rowL xss i) := h3.kept hg2 (own_ne (fun c e1 e2 => HPR.out i hi e c e2 e1))
          by_cases e5 : i < j
          · rw [if_pos e5] at h4
            rw [if_pos (by omega)]; exact h4
          · rw [if_neg e5] at h4
            rw [if_neg (by omega)]; exact h4
      clear ho2 hg2 hown
      go_wp2_with fail
      go_roundw
      case rel => exact ⟨j + 1, by omega, by go_num, val_int (by rw [HN.out]; omega), b2, own2, HA2⟩
      case measure => simp [intOf]; omega
    · obtain rfl : j = xss.length := by omega
      go_wp2_with fail
      go_ret
      refine ⟨rfl, ⟨⟨by rw [mkS_len]; exact hown, fun i hi => ?_, fun i hi => ?_⟩, fun i j h1 h2 => ?_⟩, hb⟩
      · rw [mkS_len] at hi
        have := HA.out i hi
        rw [if_pos hi] at this; exact this
      · rw [mkS_len] at hi
        exact HO.out.o.apart i hi
      · rw [mkS_len] at h2
        exact HO.out.pair i j h1 h2

theorem heldIntS_any (a : Option Addr) (n cap : Nat) (k : Int) (w : World) (h0 : 0 ≤ k) (h1 : k ≤ 1099511627776) (hn : n ≤ 1048576) (hx : Rd w a (marks k n)) :
    Calls Try.prog 33 #[.slice a n cap, .int .i64 k] w fun e w' => e = .returned (.int .i64 (k + n)) ∧ Below w.heap.size w w' := by
  go_enter Try.func33, Try.ntmps33
  go_wp2_with fail
  go_loop [1, 5] (fun k' i => ∃ j : Nat, j ≤ n ∧ i = .int .i64 j ∧ k' = .int .i64 (k + j)) (fun _ i => n - (intOf i).toNat)
  case atStart => exact ⟨0, Nat.zero_le _, rfl, by simp⟩
  case round =>
    obtain ⟨j, hj, rfl, rfl⟩ := hrel
    by_cases hlt : j < n
    · obtain ⟨b, off, rfl, hbl, hc⟩ := hx.cell j (by rw [marks_len]; exact hlt)
      rw [marks_nth hlt] at hc
      go_wp2_with fail
      go_round
      case rel => exact ⟨j + 1, by omega, by go_num, by go_num⟩
      case measure => simp [intOf]; omega
    · obtain rfl : j = n := by omega
      go_wp2_with fail
      go_ret
      exact ⟨rfl, (by repeat (first | exact Below.refl _ _ | assumption | refine Below.alloc ?_ (by first | exact Nat.le_refl _ | (simp only [World.size_alloc, World.size_setCell, World.size_drew]; omega) | omega) _ | refine Below.setCell ?_ (by first | exact Nat.le_refl _ | (simp only [World.size_alloc, World.size_setCell, World.size_drew]; omega) | omega) _ | refine Below.drew ?_))⟩

set_option maxRecDepth 100000 in
theorem heldSS_any (a : Option Addr) (n cap : Nat) (xss : List (List Int)) (k : Int) (w : World) (hnl : n = xss.length) (h0 : 0 ≤ k) (h1 : k ≤ 1048576) (hn : xss.length + totS xss xss.length ≤ 1048576) (hx : RdS w a (mkS xss k)) :
    Calls Try.prog 47 #[.slice a n cap, .int .i64 k] w fun e w' => e = .returned (.int .i64 (k + ((totS xss xss.length : Nat) : Int))) ∧ Below w.heap.size w w' := by
  subst hnl
  have hmax : xss.length ≤ 1048576 := by omega
  go_enter Try.func47, Try.ntmps47
  go_wp2_with fail
  go_loopw [1, 5] (fun k' i wr => ∃ j : Nat, j ≤ xss.length ∧ i = .int .i64 j ∧ k' = .int .i64 (k + ((totS xss j : Nat) : Int)) ∧ Below w.heap.size w wr) (fun _ i _ => xss.length - (intOf i).toNat)
  case atStart => exact ⟨0, Nat.zero_le _, rfl, by simp [totS], Below.refl _ _⟩
  case round =>
    obtain ⟨j, hj, rfl, rfl, hb⟩ := hrel
    by_cases hlt : j < xss.length
    · have hrt := row_tot (xss := xss) hlt
      have hmn := totS_mono (xss := xss) (j := j) (k := xss.length) (by omega)
      have HN : Hid (totS xss (j+1) = totS xss j + (rowL xss j).length) := rfl
      have k1 : (j : Int) < (xss.length : Int) := by omega
      obtain ⟨b1, off1, a1, cap1, rfl, hbl1, hc1, hr1⟩ := (hx.below hb).row j (by rw [mkS_len]; exact hlt)
      rw [mkS_row hlt] at hc1 hr1
      have hml : (marks (k + ((totS xss j : Nat) : Int)) (rowL xss j).length).length = (rowL xss j).length := by simp [marks]
      rw [hml] at hc1
      clear hml
      have hro : (rowL xss j).length ≤ 1048576 := by omega
      have hcall := heldIntS_any a1 (rowL xss j).length cap1 (k + ((totS xss j : Nat) : Int)) wr (by omega) (by omega) hro hr1
      have HCL := Lib.hid hcall
      have hge : ¬ (k + ((totS xss j : Nat) : Int) + (((rowL xss j).length : Nat) : Int) < 0) := by omega
      have hbs := hb.size
      clear hcall hr1
      go_wp2_with fail
      refine HCL.out.mono ?_
      rintro e w2 ⟨rfl, hb2⟩
      go_wp2_with fail
      go_roundw
      case rel => exact ⟨j + 1, by omega, by go_num, val_int (by rw [HN.out]; omega), hb.trans (hb2.mono hbs)⟩
      case measure => simp [intOf]; omega
    · obtain rfl : j = xss.length := by omega
      go_wp2_with fail
      go_ret
      exact ⟨rfl, hb⟩

theorem walk (i0 : Int) (w : World) (hi0 : -9223372036854775808 ≤ i0 ∧ i0 ≤ 9223372036854775807) :
    Calls Try.prog 11 #[.int .i64 i0] w fun e w' => e = .returned (.bool true) ∧ Below w.heap.size w w' := by
  have hT := ltL_len i0
  go_enter Try.func11, Try.ntmps11
  go_wp2_with fail
  refine (sLTO_any _ _ hi0).mono ?_
  rintro e w1 ⟨pR, qR, vR, rfl, hR1, hb⟩
  have bw1 : Below w.heap.size w w1 := Below.trans (by repeat (first | exact Below.refl _ _ | assumption | refine Below.alloc ?_ (by first | exact Nat.le_refl _ | (simp only [World.size_alloc, World.size_setCell, World.size_drew]; omega) | omega) _ | refine Below.setCell ?_ (by first | exact Nat.le_refl _ | (simp only [World.size_alloc, World.size_setCell, World.size_drew]; omega) | omega) _ | refine Below.drew ?_)) (hb.mono (by first | (simp only [World.size_alloc, World.size_setCell, World.size_drew]; omega) | omega))
  clear hb
  go_wp2_with fail
  refine (iLT_any _ _ hi0).mono ?_
  rintro e w2 ⟨pG, qG, vG, rfl, hG2, hb⟩
  have hR2 := hR1.rd.below hb
  have bw2 : Below w.heap.size w w2 := bw1.trans (hb.mono bw1.size)
  have z12 := hb.size
  have hgr := hb
  clear hb
  go_wp2_with fail
  refine (eqIntSS_same _ _ (ltL i0) _ _ _ hG2.o.rd hR2).mono ?_
  rintro e w3 ⟨rfl, hb⟩
  have hG3 := hG2.below hb (Nat.le_refl _)
  have hg3 : Below w1.heap.size w1 w3 := hgr.trans (hb.mono z12)
  have bw3 : Below w.heap.size w w3 := bw2.trans (hb.mono bw2.size)
  have z3 := hg3.size
  clear hb hG2 hR2 hgr
  go_wp2_with fail
  refine (markSS_any _ _ _ _ (ltL i0) 1 w1.heap.size _ rfl (by omega) (by omega) hT hG3 z3).mono ?_
  rintro e w4 ⟨rfl, hG4, hb⟩
  have hg4 : Below w1.heap.size w1 w4 := hg3.trans hb
  have hR4 := hR1.rd.below hg4
  have bw4 : Below w.heap.size w w4 := bw3.trans (hb.mono bw1.size)
  have hM4 := hG4.o.rd
  clear hb hG3 hG4 hg3 hg4
  go_wp2_with fail
  refine (heldSS_any _ _ _ (ltL i0) 1 _ rfl (by omega) (by omega) hT hM4).mono ?_
  rintro e w5 ⟨rfl, hb⟩
  have hM5 := hM4.below hb
  have hR5 := hR4.below hb
  have bw5 : Below w.heap.size w w5 := bw4.trans (hb.mono bw4.size)
  clear hb hM4 hR4
  go_wp2_with fail
  refine (iLT_any _ _ hi0).mono ?_
  rintro e w6 ⟨pH, qH, vH, rfl, hH6, hb⟩
  have hM6 := hM5.below hb
  have hR6 := hR5.below hb
  have bw6 : Below w.heap.size w w6 := bw5.trans (hb.mono bw5.size)
  clear hb hM5 hR5
  go_wp2_with fail
  refine (eqIntSS_same _ _ (ltL i0) _ _ _ hH6.o.rd hR6).mono ?_
  rintro e w7 ⟨rfl, hb⟩
  have hM7 := hM6.below hb
  have bw7 : Below w.heap.size w w7 := bw6.trans (hb.mono bw6.size)
  clear hb hM6 hR6 hH6
  go_wp2_with fail
  refine (heldSS_any _ _ _ (ltL i0) 1 _ rfl (by omega) (by omega) hT hM7).mono ?_
  rintro e w8 ⟨rfl, hb⟩
  have bw8 : Below w.heap.size w w8 := bw7.trans (hb.mono bw7.size)
  clear hb hM7
  go_wp2_with fail
  go_ret
  exact ⟨rfl, bw8⟩

theorem rd_of_trod {H : Type} {enc : TypeId × Value → H} {W : World} {fuel : Nat} {c : Value} {y : DataW H × List MemPlace}
    (h : DataW.trod enc Try.prog W 0 (fun _ => true) true fuel 22 [c] = some y) : ∃ (a : Option Addr) (xs : List Int) (cap : Nat), c = .slice a xs.length cap ∧ Rd W a xs ∧ ∀ k, k < xs.length → (Lit.int .i64 (nth xs k)).wf = true := by
  rcases Go.ChangeShapes.open_ints Try.underlying22 Try.underlying3 (by kernel_rfl) h with ⟨hcs, _⟩ | ⟨x, len, cap, zs, hcs, _, hl, hm, hz, _, hcell, hwf⟩
  · simp only [List.cons.injEq, and_true] at hcs
    exact ⟨none, [], 0, hcs, ⟨by simp, fun k hk => by simp at hk⟩, fun k hk => by simp at hk⟩
  · simp only [List.cons.injEq, and_true] at hcs
    simp only [if_true] at hz
    have hlen : (zs.take len).length = len := by rw [List.length_take]; omega
    have hn : ∀ k, k < len → nth (zs.take len) k = zs.getD k 0 := by
      intro k hk
      simp only [nth, List.getD_eq_getElem?_getD, List.getElem?_take, hk, if_true]
    refine ⟨some x, zs.take len, cap, by rw [hlen]; exact hcs, ⟨by rw [hlen]; unfold maxLen at hm; omega, fun k hk => ?_⟩, fun k hk => ?_⟩
    · rw [hlen] at hk
      obtain ⟨b, off, sp⟩ := x
      have h0 := hcell 0 (by omega)
      have hsp : sp = none := by simpa [Addr.add] using World.cell?_spot h0
      subst hsp
      have hk' := hcell k (by omega)
      rw [Addr.add_lit] at hk'
      exact ⟨b, off, rfl, World.block_lt_of_cell? _ _ h0, by rw [hk', hn k hk]⟩
    · rw [hlen] at hk
      rw [hn k hk]
      have hk2 : k < zs.length := by omega
      exact hwf _ (by rw [List.getD_eq_getElem?_getD, List.getElem?_eq_getElem hk2]; exact List.getElem_mem hk2)

theorem own : ownKnob Try.prog.godebug = none := by kernel_rfl
theorem laidOut : laidOutB Try.prog = true := by kernel_rfl
theorem wf_bd {n : Int} (h : (Lit.int .i64 n).wf = true) : -9223372036854775808 ≤ n ∧ n ≤ 9223372036854775807 := by
  simp [Lit.wf, IntKind.min, IntKind.max, IntKind.bits, IntKind.signed] at h
  omega

open Go.ChangeShapes Go.WideShapes Go.ChangeAt Go.RowKit in
set_option maxRecDepth 100000 in
theorem lifted (os : Os) (started : os.Started) (H : Type) (enc : TypeId × Value → H) :
    ReturnsInHanded {} Try.checked os 11 .any (Rows.fnExactListTidySpec.pre6 enc Try.prog Try.f11 Rows.fnExactListTidyRow.domain false) (Rows.fnExactListTidySpec.post enc Try.prog Try.f11 false true false false) := by
  refine returnsInHanded_of_change (C := Try.checked) own started (by kernel_rfl) Try.func11
    (ChangeSpec.witness6 (enc := enc) (C := Try.checked) false ⟨#[], #[.int .i64 0], []⟩ 8 (by kernel_rfl) (by kernel_rfl) (by kernel_rfl) (by kernel_rfl)) ?_
  intro W base args ds gs before hval0 hW hcnd _
  have hval : ∀ (j : Nat) t v, Try.f11.params[j]? = some t → args[j]? = some v → Value.okWide Try.prog W .any base t v := hval0
  have hW' := hW
  obtain ⟨p, q, hA0, hV, rfl, hfz, hnd⟩ := hW
  have hA : DataW.TrodAll enc Try.prog W 0 (fun _ => true) true Try.f11.params.toList args.toList ds p := hA0
  rw [Try.params11] at hA hval
  obtain ⟨v0, vs0, d0, ds0, p0, q0, hargs, rfl, rfl, h0, r0⟩ := trodAll_cons hA
  obtain ⟨rfl, rfl, rfl⟩ := trodAll_nil r0
  obtain rfl : args = #[v0] := by cases args; simp_all
  obtain ⟨rfl, rfl⟩ := trodVars_none hV
  have lt0 : ∀ x ∈ p0, x.block < W.heap.size := by obtain ⟨m, hm⟩ := h0; exact DataW.trod_lt m _ _ _ hm
  obtain ⟨i0, rfl, hd0, hp0, wf0⟩ := open_int Try.underlying3 (hval 0 3 v0 rfl rfl) h0
  clear hA0 hval0
  refine (walk i0 W (wf_bd wf0)).mono fun e W' ⟨he, bel⟩ => ?_
  subst he
  exact ⟨_, rfl, _, _, _, [], _, [], hW', trodAll_mk1 (shut_bool Try.underlying4 _), (trodAll_cons_mk (Below.trod laidOut (by kernel_rfl) (of_decide_eq_true (by kernel_rfl)) h0 bel lt0) trodAll_mk0), rfl, bel.frame _, fun h => by cases h⟩
theorem proved : Rows.FnExactListTidySaid :=
  OpenClaim.holds_of_wide 11 Try.f11 rfl rfl rfl rfl rfl rfl rfl ⟨rfl, rfl, rfl, rfl, rfl⟩ rfl rfl rfl rfl rfl (by kernel_rfl) Try.func11 (by kernel_rfl)
    (of_decide_eq_true (by kernel_rfl)) (by unfold Func.isWrapper; first | (rw [if_pos (by decide +kernel)]; kernel_rfl) | (rw [if_neg (by decide +kernel)]; exact ⟨rfl, rfl⟩))
    (fun os started H enc _ => lifted os started H enc)

end Go.Proofs.Ytpenikceoogmgaa.listTidy
