/- PROVED: the law FnExactCountNamed returns true for every input, and each of its arguments reads afterwards as before. No conditions. -/
import Derived.Test.YtpenikceoogmgaaRows
import Derived.WalkKit
import Derived.WalkSpells
import Derived.WalkLawsBesides
import Derived.Deep.QuietTactic
import Derived.BigQuiet
import Derived.ProofKit
import Derived.OpenShut
import Derived.ShutString
import Derived.ChangeOld
import Derived.Below
import Derived.Lib.SmallJoins
import Derived.Lib.Hide
import Derived.Maps.AppendAt
import Derived.Deep.AppendLies
import Derived.Deep.RegionLaw
import Derived.Lib.SliceRun
import Derived.Shelf.Spec.SlicesInsertGrow
import Derived.Laws.CopyOwn
import Derived.Deep.DeepMust
import Derived.Laws.Cover3
import Derived.Deep.RegionHeld3
import Derived.Test.YtpenikceoogmgaaCountNamedP2
namespace Go.Proofs.Ytpenikceoogmgaa.countNamed
open Go Go.RowKit
set_option linter.unusedVariables false
set_option linter.unusedSimpArgs false
set_option maxHeartbeats 400000
set_option maxRecDepth 100000 in
set_option maxHeartbeats 1000000 in
theorem iLM_any (n : Int) (w : World) (hn : -9223372036854775808 ≤ n ∧ n ≤ 9223372036854775807) :
    Calls Try.prog 37 #[.int .i64 n] w fun e w' => ∃ a c vl lo hi, e = .returned (.tuple #[.slice a (laL n).length c, .bool (laB n)]) ∧ MxsP w' w.heap.size (.slice a (laL n).length c) (laL n).length vl (lmL n) lo hi ∧ Below w.heap.size w w' := by
  obtain ⟨j0, hj0, hy0, hy1, hy2⟩ := info_parts infoMx
  have HNO : Hid (laB n = false → laL n = []) := fun hh => by simp [laL, hh]
  have HLL := Lib.hid (laL_le n)
  cases hb : laB n
  · have HL0 := HNO.out hb
    have HB := Lib.hid hb
    clear hb
    go_enter Try.func37, Try.ntmps37
    go_wp2_with fail
    refine (iListAsc_any n _ hn).mono ?_
    rintro e w1 ⟨a1, c1, vl1, rfl, hro, hb1⟩
    rw [HB.out, HL0]
    go_wp2_with fail
    refine bodyPost_ret (v := .tuple #[.slice none 0 0, .bool false]) (by simp [results, Try.results37, go_sem]) rfl ?_
    have e0 := HNO.out HB.out
    exact ⟨none, 0, [], fun _ => 0, fun _ => 0, by simp [e0], by rw [show lmL n = [] by simp [lmL, e0], e0]; exact ⟨World.ownsRow_nil _ _ _ _, by simp, fun k hk => by simp at hk, fun k hk => by simp at hk, fun i j h1 h2 => by simp at h2, fun k hk => by simp at hk⟩, hb1⟩
  · have HB := Lib.hid hb
    clear hb
    go_enter Try.func37, Try.ntmps37
    go_wp2_with fail
    refine (iListAsc_any n _ hn).mono ?_
    rintro e w1 ⟨a1, c1, vl1, rfl, hro, hb1⟩
    rw [HB.out]
    have HX := Lib.hid hro.rdC
    have hs1 := hb1.size
    have HROW : Hid (∀ k, k < (laL n).length → ascB (rowL (laL n) k) = true) := fun k hk => (laL_row hk).2
    obtain ⟨S, hS⟩ : ∃ S, S = laL n := ⟨_, rfl⟩
    have HSL := Lib.hid hS
    rw [← hS] at HX HROW HLL ⊢
    have hll := HLL.out
    have b1 := hb1
    clear hro hS hb1
    go_wp2_with (at_make; refine wpList_make_full _ rfl (.tmp 17) (.tmp 17) 49 rfl w1.heap.size 39 j0 (.agg #[.slice none 0 0]) 1 Try.underlying49 hj0 hy0 hy1 .i64 .i64 _ _ S.length rfl rfl rfl rfl (by rw [hy2]; omega) (by unfold maxLen; omega) (Nat.le_refl _) ?_; intro w2 hown hgrow)
    have b2 : Below w1.heap.size w1 w2 := (Below.refl _ _).grown hgrow (Nat.le_refl _) (fun k h => by cases h)
    have hm0 : MxsP w2 w1.heap.size (.slice (some ⟨w1.heap.size, 0, none⟩) S.length S.length) S.length (List.replicate S.length (.slice none 0 0)) ((S.map moaL).take 0) (fun _ => 0) (fun _ => 0) :=
      ⟨by simpa [Value.cells, toList_madeCells_one] using hown, by simp, fun k hk => by simp at hk, fun k hk => by simp at hk, fun i j h1 h2 => by simp at h2, fun k hk => by simp at hk⟩
    have hg1 : w1.heap.size < w2.heap.size := by
      have := World.ownsRow.lt hown w1.heap.size rfl
      omega
    have HM0 := Lib.hid hm0
    clear hown hgrow hm0
    go_wp2_with fail
    go_loopw [21] (fun i wr => ∃ (k : Nat) (vl : List Value) (lo hi : Nat → Nat), k ≤ S.length ∧ i = .int .i64 k ∧ MxsP wr w1.heap.size (.slice (some ⟨w1.heap.size, 0, none⟩) S.length S.length) S.length vl ((S.map moaL).take k) lo hi ∧ Below w1.heap.size w1 wr) (fun i _ => S.length - (intOf i).toNat)
    case atStart => exact ⟨0, _, _, _, Nat.zero_le _, rfl, HM0.out, b2⟩
    case round =>
      obtain ⟨k, vl, lo, hi, hk, rfl, hro, hb⟩ := hrel
      have hbs := hb.size
      by_cases hlt : k < S.length
      · have k1 : (k : Int) < (S.length : Int) := by omega
        obtain ⟨b, off, a', cap', rfl, hbl, hc, hr, hcp⟩ := (HX.out.below hb).row hlt
        have HC := Lib.hid (fun W (h : Rd W a' (rowL S k)) => iMOA_any a' (rowL S k) cap' W h hcp)
        have HA := HROW.out k hlt
        have HTK : Hid ((S.map moaL).take (k+1) = (S.map moaL).take k ++ [moaL (rowL S k)]) := by
          rw [Hid, List.take_succ_eq_append_getElem (by simpa using hlt)]
          simp only [List.getElem_map]
          rw [rowL, List.getD_eq_getElem?_getD, List.getElem?_eq_getElem hlt]
          simp
        rw [HA] at HC
        have hgg : w1.heap.size < wr.heap.size := (World.ownsRow.lt hro.own w1.heap.size rfl).2
        have hst := fun (W : World) (u : Value) (vl : List Value) (h : W.ownsRow w1.heap.size 39 1 (.slice (some ⟨w1.heap.size, 0, none⟩) S.length S.length) S.length vl) => World.ownsRow.stored h k u
        have HST := Lib.hid hst
        have HRO := Lib.hid hro
        obtain ⟨M, hM⟩ : ∃ M, M = moaL (rowL S k) := ⟨_, rfl⟩
        rw [← hM] at HC HTK
        have HR := Lib.hid hr
        generalize hLr : (rowL S k).length = lr at hc HC hcp
        clear hro hM hr hst HA
        go_wp2_with fail
        refine (HC.out _ HR.out).mono ?_
        rintro e w2 ⟨a2, c2, ul, rfl, hr2, hb2⟩
        have hs2 := hb2.size
        have HR2 := Lib.hid hr2
        have HO2 := Lib.hid (HRO.out.below hb2 (Nat.le_refl _))
        have HB2 := Lib.hid hb2
        have hvl := HRO.out.vlen
        have hcc := World.ownsRow.cellAt HO2.out.own k (by omega)
        have hfr := World.ownsRow.frozenAt HO2.out.own k
        have hcc' : ∃ u, w2.cell? ⟨w1.heap.size, k, none⟩ = some u := by
          rw [hcc]
          exact ⟨_, List.getElem?_eq_getElem (by omega)⟩
        obtain ⟨u, hu⟩ := hcc'
        clear hr2 hb2 hcc
        have hs5 := HST.out w2 (.slice a2 M.length c2) vl HO2.out.own
        obtain ⟨lo', hi', h6⟩ := HRO.out.step (by omega) HB2.out HR2.out hs5.1 hs5.2 (fun c e => by simp only [Value.ownBlock, Option.some.injEq] at e; omega) (fun c e => .inl e) (by simp; omega) (fun j hj => by simp at hj; rw [valAt, valAt, List.getD_eq_getElem?_getD, List.getD_eq_getElem?_getD, List.getElem?_set]; rw [if_neg (by omega)]) (by rw [show ((S.map moaL).take k).length = k by simp; omega]; rw [valAt, List.getD_eq_getElem?_getD, List.getElem?_set, if_pos rfl, if_pos (by omega)]; rfl)
        rw [← HTK.out] at h6
        have b6 := hb.trans ((HB2.out.mono hbs).setCell (p := ⟨w1.heap.size, k, none⟩) (Nat.le_refl _) (.slice a2 M.length c2))
        have H6 := Lib.hid (And.intro h6 b6)
        clear hs5 h6 b6 HR2 HO2 hvl HST
        go_wp2_with fail
        go_roundw
        case rel => exact ⟨k + 1, _, _, _, by omega, by go_num, H6.out.1, H6.out.2⟩
        case measure => simp [intOf]; omega
      · obtain rfl : k = S.length := by omega
        have HRD := Lib.hid hro
        clear hro
        go_wp2_with fail
        refine bodyPost_ret (v := .tuple #[.slice (some ⟨w1.heap.size, 0, none⟩) S.length S.length, .bool true]) (by simp [results, Try.results37, go_sem]) rfl ?_
        refine ⟨_, _, vl, lo, hi, by rw [← HSL.out], ?_, b1.trans (hb.mono hs1)⟩
        have h8 := HRD.out.mono hs1
        rw [List.take_of_length_le (by simp), show S.map moaL = lmL n by rw [HSL.out]; rfl, HSL.out] at h8
        rw [HSL.out]; exact h8

theorem factorial_any (n : Nat) (w : World) (hn : n ≤ 12) :
    Calls Try.prog 107 #[.int .i64 (n : Int)] w fun e w' => e = .returned (.int .i64 (facN n : Nat)) ∧ w = w' := by
  have HS : Hid (∀ i, i ≤ n → facN i ≤ 479001600) := fun i hi => (fac_small (by omega)).1
  have HSC : Hid (∀ i, facN (i+1) = facN i * (i+1)) := fun i => rfl
  go_enter Try.func107, Try.ntmps107
  go_wp2_with fail
  go_loop [3, 6] (fun v i => ∃ t : Nat, t ≤ n ∧ i = .int .i64 t ∧ v = .int .i64 (facN t : Nat)) (fun _ i => n - (intOf i).toNat)
  case atStart => exact ⟨0, Nat.zero_le _, rfl, rfl⟩
  case round =>
    obtain ⟨t, ht, rfl, rfl⟩ := hrel
    by_cases hlt : t < n
    · have h1 := HS.out (t+1) (by omega)
      have h2 := HSC.out t
      have HN := Lib.hid h2
      rw [h2] at h1
      obtain ⟨c, hc⟩ : ∃ c, c = facN t := ⟨_, rfl⟩
      rw [← hc] at h1 HN ⊢
      have e2 : (c : Int) * ((t : Int) + 1) = ((c * (t + 1) : Nat) : Int) := by rw [Int.natCast_mul]; rfl
      obtain ⟨P, hP⟩ : ∃ P, P = c * (t + 1) := ⟨_, rfl⟩
      rw [← hP] at h1 e2 HN
      clear h2 hP hc
      go_wp2_with fail
      go_round
      case rel => exact ⟨t + 1, by omega, by go_num, by rw [HN.out]⟩
      case measure => simp [intOf]; omega
    · obtain rfl : t = n := by omega
      go_wp2_with fail
      go_ret
      exact ⟨rfl, rfl⟩

def smV (xss : List (List Int)) : Int := if mxB xss then matS xss xss.length else 0

theorem iSumMx_any (a : Option Addr) (xss : List (List Int)) (cap : Nat) (w : World) (hx : RdC w a xss) (hs : xss.length + totS xss xss.length ≤ 1048576) :
    Calls Try.prog 95 #[.agg #[.slice a xss.length cap]] w fun e w' => e = .returned (.tuple #[.int .i64 (smV xss), .bool (mxB xss)]) ∧ Below w.heap.size w w' := by
  have hlen := hx.rd.len
  have HCL := Lib.hid (fun W (h : RdC W a xss) => rowsOf_any a xss cap W h hs)
  cases hm : mxB xss
  · have HM := Lib.hid hm
    have H1 : Hid (smV xss = 0) := by simp [Hid, smV, hm]
    clear hm
    go_enter Try.func95, Try.ntmps95
    go_wp2_with fail
    refine (HCL.out _ (hx.below (by repeat (first | exact Below.refl _ _ | assumption | refine Below.alloc ?_ (by first | exact Nat.le_refl _ | (simp only [World.size_alloc, World.size_setCell, World.size_drew]; omega) | omega) _ | refine Below.setCell ?_ (by first | exact Nat.le_refl _ | (simp only [World.size_alloc, World.size_setCell, World.size_drew]; omega) | omega) _ | refine Below.drew ?_)))).mono ?_
    rintro e w1 ⟨s, va, vn, vc, rfl, _, hb⟩
    rw [HM.out]
    have b1 : Below w.heap.size w w1 := Below.trans (by repeat (first | exact Below.refl _ _ | assumption | refine Below.alloc ?_ (by first | exact Nat.le_refl _ | (simp only [World.size_alloc, World.size_setCell, World.size_drew]; omega) | omega) _ | refine Below.setCell ?_ (by first | exact Nat.le_refl _ | (simp only [World.size_alloc, World.size_setCell, World.size_drew]; omega) | omega) _ | refine Below.drew ?_)) (hb.mono (by first | (simp only [World.size_alloc, World.size_setCell, World.size_drew]; omega) | omega))
    clear hb
    go_wp2_with fail
    go_ret2
    exact ⟨ret_ib' H1.out.symm rfl, b1.alloc b1.size _⟩
  · have HM := Lib.hid hm
    have H1 : Hid (smV xss = matS xss xss.length) := by simp [Hid, smV, hm]
    clear hm
    go_enter Try.func95, Try.ntmps95
    go_wp2_with fail
    refine (HCL.out _ (hx.below (by repeat (first | exact Below.refl _ _ | assumption | refine Below.alloc ?_ (by first | exact Nat.le_refl _ | (simp only [World.size_alloc, World.size_setCell, World.size_drew]; omega) | omega) _ | refine Below.setCell ?_ (by first | exact Nat.le_refl _ | (simp only [World.size_alloc, World.size_setCell, World.size_drew]; omega) | omega) _ | refine Below.drew ?_)))).mono ?_
    rintro e w1 ⟨s, va, vn, vc, rfl, hok, hb⟩
    have hok2 := Lib.hid (hok HM.out).1
    rw [HM.out]
    have b1 : Below w.heap.size w w1 := Below.trans (by repeat (first | exact Below.refl _ _ | assumption | refine Below.alloc ?_ (by first | exact Nat.le_refl _ | (simp only [World.size_alloc, World.size_setCell, World.size_drew]; omega) | omega) _ | refine Below.setCell ?_ (by first | exact Nat.le_refl _ | (simp only [World.size_alloc, World.size_setCell, World.size_drew]; omega) | omega) _ | refine Below.drew ?_)) (hb.mono (by first | (simp only [World.size_alloc, World.size_setCell, World.size_drew]; omega) | omega))
    clear hb hok
    go_wp2_with fail
    go_ret2
    exact ⟨ret_ib' (by rw [H1.out, hok2.out]) rfl, b1.alloc b1.size _⟩

set_option maxRecDepth 100000 in
theorem iNamed_any (a : Option Addr) (xss : List (List Int)) (cap : Nat) (w : World) (hx : RdC w a xss) (hs : xss.length + totS xss xss.length ≤ 1048576) :
    Calls Try.prog 78 #[.agg #[.slice a xss.length cap]] w fun e w' => e = .returned (.tuple #[.int .i64 (nmV xss), .bool (mxB xss)]) ∧ Below w.heap.size w w' := by
  have HSM := Lib.hid (fun W (h : RdC W a xss) => iSumMx_any a xss cap W h hs)
  obtain ⟨W0, hW0⟩ : ∃ x : World, x = w.alloc (.cells #[.slice a xss.length cap] 39) := ⟨_, rfl⟩
  have bw0 : Below w.heap.size w W0 := by rw [hW0]; exact (Below.refl _ _).alloc (Nat.le_refl _) _
  have B0 : Box1 W0 w.heap.size (.slice a xss.length cap) := by rw [hW0]; exact Box1.new w _ _
  have hx0 := hx.below bw0
  obtain ⟨g0, hg0⟩ : ∃ g, g = w.heap.size := ⟨_, rfl⟩
  clear hx
  cases hm : mxB xss
  · have H1 : Hid (nmV xss = 0) := by simp [Hid, nmV, hm]
    rw [hm] at HSM
    clear hm
    go_enter Try.func78, Try.ntmps78
    go_wp2_with fail
    rw [← hW0]
    rw [← hg0] at B0 ⊢
    have ⟨zB0, cB0⟩ := B0
    clear hg0 hW0
    go_wp2_with fail
    refine (HSM.out _ hx0).mono ?_
    rintro e w1 ⟨rfl, hb⟩
    clear cB0
    go_wp2_with fail
    go_ret2
    exact ⟨ret_ib' H1.out.symm rfl, bw0.trans (hb.mono bw0.size)⟩
  · have h12 := mxB_small hm
    have g1 := (adB_iff.1 (mxB_iff.1 hm).1).2
    have g2 := matS_nn (xss := xss) (k := xss.length) (fun j hj => by have := (adB_row (mxB_iff.1 hm).1 hj).1; omega)
    have HNX : Hid (∀ i, i < xss.length → ∀ j, j < xss.length → _) := fun i hi j hj => nm_next hm hi hj
    have HM := Lib.hid hm
    have H1 : Hid (nmV xss = ((nmM xss (matS xss xss.length).toNat xss.length).1 : Int)) := by simp [Hid, nmV, hm]
    have HSV : Hid (smV xss = matS xss xss.length) := by simp [Hid, smV, hm]
    have HLF := nm_at hm xss.length (Nat.le_refl _)
    rw [hm, HSV.out] at HSM
    obtain ⟨S, hS⟩ : ∃ S : Nat, matS xss xss.length = (S : Int) := ⟨(matS xss xss.length).toNat, by omega⟩
    have e1 : (matS xss xss.length).toNat = S := by omega
    rw [hS] at HSM
    simp only [e1] at HNX H1 HLF
    have hl0 := HLF.left
    have HL0 : Hid ((nmM xss S xss.length).2 = 0) := by rw [Hid]; omega
    have hS12 : S ≤ 12 := by omega
    have HFC := Lib.hid (fun W => factorial_any S W hS12)
    have hf12 := (fac_small hS12).1
    clear hm e1 hS g1 g2 hl0 HLF
    go_enter Try.func78, Try.ntmps78
    go_wp2_with fail
    rw [← hW0]
    rw [← hg0] at B0 ⊢
    have ⟨zB0, cB0⟩ := B0
    clear hg0 hW0
    go_wp2_with fail
    refine (HSM.out _ hx0).mono ?_
    rintro e w1 ⟨rfl, hb1⟩
    have hx1 := hx0.below hb1
    have ⟨zB1, cB1⟩ := B0.below hb1
    have b1 := bw0.trans (hb1.mono bw0.size)
    clear cB0
    go_wp2_with fail
    refine (HFC.out _).mono ?_
    rintro e w2 ⟨rfl, rfl⟩
    go_wp2_with fail
    go_loop [6, 23] (fun v6 i => ∃ k : Nat, k ≤ xss.length ∧ i = .int .i64 k ∧ v6 = .int .i64 (((nmM xss S k).1 * facN (nmM xss S k).2 : Nat) : Int)) (fun _ i => xss.length - (intOf i).toNat)
    case atStart => exact ⟨0, Nat.zero_le _, rfl, by simp [nmM]⟩
    case round =>
      obtain ⟨k, hk, rfl, rfl⟩ := hrel
      by_cases hlt : k < xss.length
      · have hx2 := hx1
        obtain ⟨b, off, a', cap', rfl, hbl, hc, hr, hcp⟩ := hx2.row hlt
        have hrow := mxB_len HM.out hlt
        have HK : Hid (nmM xss S (k+1) = nmR (rowL xss k) (nmM xss S k).1 (nmM xss S k).2 xss.length) := rfl
        have HNK : Hid (∀ j, j < xss.length → _) := fun j hj => HNX.out k hlt j hj
        rw [hrow] at hc
        go_wp2_with fail
        go_loop [6, 29] (fun v6 i => ∃ j : Nat, j ≤ xss.length ∧ i = .int .i64 j ∧ v6 = .int .i64 (((nmR (rowL xss k) (nmM xss S k).1 (nmM xss S k).2 j).1 * facN (nmR (rowL xss k) (nmM xss S k).1 (nmM xss S k).2 j).2 : Nat) : Int)) (fun _ i => xss.length - (intOf i).toNat)
        case atStart => exact ⟨0, Nat.zero_le _, rfl, rfl⟩
        case round =>
          obtain ⟨j, hj, rfl, rfl⟩ := hrel
          by_cases hjl : j < xss.length
          · obtain ⟨b', off', rfl, hbl', hc'⟩ := hr.cell j (by rw [hrow]; exact hjl)
            obtain ⟨n, en, Q⟩ := HNK.out j hjl
            rw [en] at hc'
            obtain ⟨p, hp⟩ : ∃ p, p = nmR (rowL xss k) (nmM xss S k).1 (nmM xss S k).2 j := ⟨_, rfl⟩
            obtain ⟨p', hp'⟩ : ∃ p, p = nmR (rowL xss k) (nmM xss S k).1 (nmM xss S k).2 (j+1) := ⟨_, rfl⟩
            have HP' := Lib.hid hp'
            rw [← hp, ← hp'] at Q
            rw [← hp]
            obtain ⟨c, l⟩ := p
            obtain ⟨c', l'⟩ := p'
            obtain ⟨q1, q2, q3, q4, q5, q6, q7, q8⟩ := Q
            simp only at q1 q2 q3 q4 q5 q6 q7 q8 ⊢
            have HC := Lib.hid (fun W => factorial_any n W (by omega))
            have hfn := fac_small (n := n) (by omega)
            obtain ⟨C, hC⟩ : ∃ C, C = facN n := ⟨_, rfl⟩
            rw [← hC] at HC q8 hfn
            obtain ⟨V, hV⟩ : ∃ V, V = c * facN l := ⟨_, rfl⟩
            rw [← hV] at q7 q8 ⊢
            obtain ⟨V', hV'⟩ : ∃ V, V = c' * facN l' := ⟨_, rfl⟩
            have HV' := Lib.hid hV'
            rw [← hV'] at q8
            have e3 : Int.tdiv (V : Int) (C : Int) = (V' : Int) := by rw [← q8]; rfl
            have hV'' : V' ≤ 479001600 := by rw [← q8]; exact Nat.le_trans (Nat.div_le_self _ _) q7
            have kj : (j : Int) < (xss.length : Int) := by omega
            have ⟨f1, f2⟩ := hfn
            have tz : ((C : Int) == 0) = false := by simp; omega
            have tz2 : ¬ ((C : Int) = 0) := by omega
            clear hp hp' en q1 q2 q3 q4 q5 q6 q8 hC hV hV' hfn
            go_wp2_with fail
            refine (HC.out _).mono ?_
            rintro e w2 ⟨rfl, rfl⟩
            go_wp2_with fail
            go_round
            case rel => exact ⟨j + 1, by omega, by go_num, by rw [← HP'.out, HV'.out]⟩
            case measure => simp [intOf]; omega
          · obtain rfl : j = xss.length := by omega
            go_wp2_with fail
            go_round
            case rel => exact ⟨k + 1, by omega, by go_num, by rw [HK.out]⟩
            case measure => simp [intOf]; omega
      · obtain rfl : k = xss.length := by omega
        rw [HL0.out, show facN 0 = 1 from rfl, Nat.mul_one]
        go_wp2_with fail
        go_ret2
        exact ⟨ret_ib' H1.out.symm rfl, b1⟩

set_option maxRecDepth 100000 in
theorem iCnm_any (n : Int) (w : World) (hn : -9223372036854775808 ≤ n ∧ n ≤ 9223372036854775807) :
    Calls Try.prog 49 #[.int .i64 n] w fun e w' => e = .returned (.tuple #[.int .i64 (cnmV n), .bool (laB n)]) ∧ Below w.heap.size w w' := by
  have HNO : Hid (laB n = false → laL n = []) := fun hh => by simp [laL, hh]
  have HLL := Lib.hid (laL_le n)
  have HLN := Lib.hid (lmL_len n)
  cases hb : laB n
  · have HL0 := HNO.out hb
    have H0 : Hid (cnmV n = 0) := by simp [Hid, cnmV, hb]
    have HB := Lib.hid hb
    clear hb
    go_enter Try.func49, Try.ntmps49
    go_wp2_with fail
    refine (iLM_any n _ hn).mono ?_
    rintro e w1 ⟨a1, c1, vl1, lo1, hi1, rfl, hro, hb1⟩
    rw [HB.out, HL0]
    go_wp2_with fail
    refine bodyPost_ret (v := .tuple #[.int .i64 0, .bool false]) (by simp [results, Try.results49, go_sem]) rfl ?_
    exact ⟨by rw [H0.out], hb1⟩
  · have H1 : Hid (cnmV n = ((cnmS (lmL n) (lmL n).length : Nat) : Int)) := by simp [Hid, cnmV, hb]
    have HB := Lib.hid hb
    have HMX : Hid (∀ k, k < (lmL n).length → mxB (mxAt (lmL n) k) = true) := fun k hk => lmL_mx hk
    have HSZ : Hid (∀ k, k < (lmL n).length → (mxAt (lmL n) k).length + totS (mxAt (lmL n) k) (mxAt (lmL n) k).length ≤ 1048576) := fun k hk => by have := lmL_size k hk; omega
    have HCL := Lib.hid (cnmS_le HMX.out)
    clear hb
    go_enter Try.func49, Try.ntmps49
    go_wp2_with fail
    refine (iLM_any n _ hn).mono ?_
    rintro e w1 ⟨a1, c1, vl1, lo1, hi1, rfl, hro, hb1⟩
    rw [HB.out, ← HLN.out]
    rw [← HLN.out] at HLL
    have HX := Lib.hid (hro.rd (by have := HLL.out; omega))
    have hs1 := hb1.size
    obtain ⟨S, hS⟩ : ∃ S, S = lmL n := ⟨_, rfl⟩
    rw [← hS] at HX HMX HLL H1 HCL HSZ ⊢
    have hll := HLL.out
    have b1 := hb1
    clear hro hS hb1 HNO HLN
    go_wp2_with fail
    go_loopw [6, 20] (fun v i wr => ∃ (k : Nat), k ≤ S.length ∧ i = .int .i64 k ∧ v = .int .i64 ((cnmS S k : Nat) : Int) ∧ Below w1.heap.size w1 wr) (fun _ i _ => S.length - (intOf i).toNat)
    case atStart => exact ⟨0, Nat.zero_le _, rfl, rfl, Below.refl _ _⟩
    case round =>
      obtain ⟨k, hk, rfl, rfl, hb⟩ := hrel
      have hbs := hb.size
      by_cases hlt : k < S.length
      · have k1 : (k : Int) < (S.length : Int) := by omega
        obtain ⟨b, off, a', cap', rfl, hbl, hc, hr⟩ := (HX.out.below hb).row k hlt
        have HM := HMX.out k hlt
        have hsz := HSZ.out k hlt
        have HN : Hid (cnmS S (k+1) = cnmS S k + (nmM (mxAt S k) (matS (mxAt S k) (mxAt S k).length).toNat (mxAt S k).length).1) := rfl
        have hle := HCL.out (k+1) (by omega)
        obtain ⟨M, hM⟩ : ∃ M, M = mxAt S k := ⟨_, rfl⟩
        rw [← hM] at HM hr hc HN hsz
        have HC := Lib.hid (fun W (h : RdC W a' M) => iNamed_any a' M cap' W h hsz)
        have HR := Lib.hid hr
        have hL0 := mxB_small HM
        obtain ⟨x, hx⟩ : ∃ x, x = (nmM M (matS M M.length).toNat M.length).1 := ⟨_, rfl⟩
        rw [show nmV M = (x : Int) by rw [nmV, if_pos HM, hx], HM] at HC
        rw [← hx] at HN
        rw [HN.out] at hle
        obtain ⟨q, hq⟩ : ∃ q, q = cnmS S k := ⟨_, rfl⟩
        rw [← hq] at HN hle ⊢
        generalize hLr : M.length = lr at hc HC hL0
        obtain ⟨wB, hwB⟩ : ∃ z : World, z = wr.alloc (.cells #[.slice a' lr cap'] 39) := ⟨_, rfl⟩
        have HA1 : Hid (Below wr.heap.size wr wB) := by rw [Hid, hwB]; exact (Below.refl _ _).alloc (Nat.le_refl _) _
        have hV := Var1.new wr (.slice a' lr cap') 39
        have hcell : wB.cell? ⟨wr.heap.size, 0, none⟩ = some (.slice a' lr cap') := by rw [hwB]; exact hV.1.2
        have HWB := Lib.hid hwB
        have hsB : wr.heap.size ≤ wB.heap.size := HA1.out.size
        have hadd : wrap64 ((q : Int) + (x : Int)) = ((q + x : Nat) : Int) := IntWalk.wrap64_in _ ⟨by omega, by omega⟩
        clear hM hr HM hV hwB hx hq hsz
        go_wp2_with fail
        rw [← HWB.out]
        go_wp2_with fail
        refine (HC.out _ (HR.out.below HA1.out)).mono ?_
        rintro e w2 ⟨rfl, hb2⟩
        have b6 := hb.trans ((HA1.out.trans (hb2.mono hsB)).mono hbs)
        clear hb2
        go_wp2_with fail
        go_roundw
        case rel => exact ⟨k + 1, by omega, by go_num, val_int (by rw [HN.out]; omega), b6⟩
        case measure => simp [intOf]; omega
      · obtain rfl : k = S.length := by omega
        go_wp2_with fail
        refine bodyPost_ret (v := .tuple #[.int .i64 ((cnmS S S.length : Nat) : Int), .bool true]) (by simp [results, Try.results49, go_sem]) rfl ?_
        exact ⟨by rw [H1.out], b1.trans (hb.mono hs1)⟩

theorem walk (i0 : Int) (w : World) (hi0 : -9223372036854775808 ≤ i0 ∧ i0 ≤ 9223372036854775807) :
    Calls Try.prog 12 #[.int .i64 i0] w fun e w' => e = .returned (.bool true) ∧ Below w.heap.size w w' := by
  go_enter Try.func12, Try.ntmps12
  go_wp2_with fail
  refine (sCnm_any _ _ hi0).mono ?_
  rintro e w1 ⟨rfl, hb⟩
  have ht : Below w.heap.size w w1 := Below.trans (by repeat (first | exact Below.refl _ _ | assumption | refine Below.alloc ?_ (by first | exact Nat.le_refl _ | (simp only [World.size_alloc, World.size_setCell, World.size_drew]; omega) | omega) _ | refine Below.setCell ?_ (by first | exact Nat.le_refl _ | (simp only [World.size_alloc, World.size_setCell, World.size_drew]; omega) | omega) _ | refine Below.drew ?_)) (hb.mono (by first | (simp only [World.size_alloc, World.size_setCell, World.size_drew]; omega) | omega))
  have z1 : w.heap.size ≤ w1.heap.size := ht.size
  have bw1 : Below w.heap.size w w1 := ht
  clear ht hb
  go_wp2_with fail
  refine (iCnm_any _ _ hi0).mono ?_
  rintro e w2 ⟨rfl, hb⟩
  have ht : Below w1.heap.size w1 w2 := hb
  have z2 : w1.heap.size ≤ w2.heap.size := ht.size
  have bw2 : Below w.heap.size w w2 := bw1.trans (ht.mono bw1.size)
  clear ht hb
  go_wp2_with fail
  go_ret
  exact ⟨rfl, bw2⟩

theorem rd_of_trod {H : Type} {enc : TypeId × Value → H} {W : World} {fuel : Nat} {c : Value} {y : DataW H × List MemPlace}
    (h : DataW.trod enc Try.prog W 0 (fun _ => true) true fuel 22 [c] = some y) : ∃ (a : Option Addr) (xs : List Int) (cap : Nat), c = .slice a xs.length cap ∧ Rd W a xs ∧ ∀ k, k < xs.length → (Lit.int .i64 (nth xs k)).wf = true := by
  rcases Go.ChangeShapes.open_ints Try.underlying22 Try.underlying3 (by kernel_rfl) h with ⟨hcs, _⟩ | ⟨x, len, cap, zs, hcs, _, hl, hm, hz, _, hcell, hwf⟩
  · simp only [List.cons.injEq, and_true] at hcs
    exact ⟨none, [], 0, hcs, ⟨by simp, fun k hk => by simp at hk⟩, fun k hk => by simp at hk⟩
  · simp only [List.cons.injEq, and_true] at hcs
    simp only [if_true] at hz
    have hlen : (zs.take len).length = len := by rw [List.length_take]; omega
    have hn : ∀ k, k < len → nth (zs.take len) k = zs.getD k 0 := by
      intro k hk
      simp only [nth, List.getD_eq_getElem?_getD, List.getElem?_take, hk, if_true]
    refine ⟨some x, zs.take len, cap, by rw [hlen]; exact hcs, ⟨by rw [hlen]; unfold maxLen at hm; omega, fun k hk => ?_⟩, fun k hk => ?_⟩
    · rw [hlen] at hk
      obtain ⟨b, off, sp⟩ := x
      have h0 := hcell 0 (by omega)
      have hsp : sp = none := by simpa [Addr.add] using World.cell?_spot h0
      subst hsp
      have hk' := hcell k (by omega)
      rw [Addr.add_lit] at hk'
      exact ⟨b, off, rfl, World.block_lt_of_cell? _ _ h0, by rw [hk', hn k hk]⟩
    · rw [hlen] at hk
      rw [hn k hk]
      have hk2 : k < zs.length := by omega
      exact hwf _ (by rw [List.getD_eq_getElem?_getD, List.getElem?_eq_getElem hk2]; exact List.getElem_mem hk2)

theorem own : ownKnob Try.prog.godebug = none := by kernel_rfl
theorem laidOut : laidOutB Try.prog = true := by kernel_rfl
theorem wf_bd {n : Int} (h : (Lit.int .i64 n).wf = true) : -9223372036854775808 ≤ n ∧ n ≤ 9223372036854775807 := by
  simp [Lit.wf, IntKind.min, IntKind.max, IntKind.bits, IntKind.signed] at h
  omega

open Go.ChangeShapes Go.WideShapes Go.ChangeAt Go.RowKit in
set_option maxRecDepth 100000 in
theorem lifted (os : Os) (started : os.Started) (H : Type) (enc : TypeId × Value → H) :
    ReturnsInHanded {} Try.checked os 12 .any (Rows.fnExactCountNamedSpec.pre6 enc Try.prog Try.f12 Rows.fnExactCountNamedRow.domain false) (Rows.fnExactCountNamedSpec.post enc Try.prog Try.f12 false true false false) := by
  refine returnsInHanded_of_change (C := Try.checked) own started (by kernel_rfl) Try.func12
    (ChangeSpec.witness6 (enc := enc) (C := Try.checked) false ⟨#[], #[.int .i64 0], []⟩ 8 (by kernel_rfl) (by kernel_rfl) (by kernel_rfl) (by kernel_rfl)) ?_
  intro W base args ds gs before hval0 hW hcnd _
  have hval : ∀ (j : Nat) t v, Try.f12.params[j]? = some t → args[j]? = some v → Value.okWide Try.prog W .any base t v := hval0
  have hW' := hW
  obtain ⟨p, q, hA0, hV, rfl, hfz, hnd⟩ := hW
  have hA : DataW.TrodAll enc Try.prog W 0 (fun _ => true) true Try.f12.params.toList args.toList ds p := hA0
  rw [Try.params12] at hA hval
  obtain ⟨v0, vs0, d0, ds0, p0, q0, hargs, rfl, rfl, h0, r0⟩ := trodAll_cons hA
  obtain ⟨rfl, rfl, rfl⟩ := trodAll_nil r0
  obtain rfl : args = #[v0] := by cases args; simp_all
  obtain ⟨rfl, rfl⟩ := trodVars_none hV
  have lt0 : ∀ x ∈ p0, x.block < W.heap.size := by obtain ⟨m, hm⟩ := h0; exact DataW.trod_lt m _ _ _ hm
  obtain ⟨i0, rfl, hd0, hp0, wf0⟩ := open_int Try.underlying3 (hval 0 3 v0 rfl rfl) h0
  clear hA0 hval0
  refine (walk i0 W (wf_bd wf0)).mono fun e W' ⟨he, bel⟩ => ?_
  subst he
  exact ⟨_, rfl, _, _, _, [], _, [], hW', trodAll_mk1 (shut_bool Try.underlying4 _), (trodAll_cons_mk (Below.trod laidOut (by kernel_rfl) (of_decide_eq_true (by kernel_rfl)) h0 bel lt0) trodAll_mk0), rfl, bel.frame _, fun h => by cases h⟩
theorem proved : Rows.FnExactCountNamedSaid :=
  OpenClaim.holds_of_wide 12 Try.f12 rfl rfl rfl rfl rfl rfl rfl ⟨rfl, rfl, rfl, rfl, rfl⟩ rfl rfl rfl rfl rfl (by kernel_rfl) Try.func12 (by kernel_rfl)
    (of_decide_eq_true (by kernel_rfl)) (by unfold Func.isWrapper; first | (rw [if_pos (by decide +kernel)]; kernel_rfl) | (rw [if_neg (by decide +kernel)]; exact ⟨rfl, rfl⟩))
    (fun os started H enc _ => lifted os started H enc)

end Go.Proofs.Ytpenikceoogmgaa.countNamed
