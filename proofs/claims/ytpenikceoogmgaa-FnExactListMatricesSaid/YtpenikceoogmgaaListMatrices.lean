/- PROVED: the law FnExactListMatrices returns true for every input, and each of its arguments reads afterwards as before. No conditions. -/
import Derived.Test.YtpenikceoogmgaaRows
import Derived.WalkKit
import Derived.WalkSpells
import Derived.WalkLawsBesides
import Derived.Deep.QuietTactic
import Derived.BigQuiet
import Derived.ProofKit
import Derived.OpenShut
import Derived.ShutString
import Derived.ChangeOld
import Derived.Below
import Derived.Lib.SmallJoins
import Derived.Lib.Hide
import Derived.Maps.AppendAt
import Derived.Deep.AppendLies
import Derived.Deep.RegionLaw
import Derived.Lib.SliceRun
import Derived.Shelf.Spec.SlicesInsertGrow
import Derived.Laws.CopyOwn
import Derived.Deep.DeepMust
import Derived.Laws.Cover3
import Derived.Deep.RegionHeld3
import Derived.Test.YtpenikceoogmgaaListMatricesP2
namespace Go.Proofs.Ytpenikceoogmgaa.listMatrices
open Go Go.RowKit
set_option linter.unusedVariables false
set_option linter.unusedSimpArgs false
set_option maxHeartbeats 400000
/-- how many numbers the first k matrices have -/
def totM (yss : List (List (List Int))) : Nat → Nat
  | 0 => 0
  | k+1 => totM yss k + totS (mxAt yss k) (mxAt yss k).length
theorem totM_mono {yss : List (List (List Int))} {i : Nat} : ∀ {j : Nat}, i ≤ j → totM yss i ≤ totM yss j
  | 0, h => by obtain rfl : i = 0 := by omega
               exact Nat.le_refl _
  | j+1, h => by
    by_cases e : i = j + 1
    · rw [e]; exact Nat.le_refl _
    · have := totM_mono (yss := yss) (i := i) (j := j) (by omega)
      simp only [totM]; omega
def mkY (yss : List (List (List Int))) (k : Int) : List (List (List Int)) := (List.range yss.length).map fun j => mkS (mxAt yss j) (k + ((totM yss j : Nat) : Int))
theorem mkY_len (yss : List (List (List Int))) (k : Int) : (mkY yss k).length = yss.length := by simp [mkY]
theorem mkY_at {yss : List (List (List Int))} {k : Int} {j : Nat} (h : j < yss.length) : mxAt (mkY yss k) j = mkS (mxAt yss j) (k + ((totM yss j : Nat) : Int)) := by
  simp [mxAt, mkY, List.getD_eq_getElem?_getD, h]
set_option maxRecDepth 100000 in
theorem markMxS_any (a : Option Addr) (n cap : Nat) (vl : List Value) (yss : List (List (List Int))) (lo hi : Nat → Nat) (k : Int) (B : Nat) (w : World) (hnl : n = yss.length) (h0 : 0 ≤ k) (h1 : k ≤ 1000) (hs : ∀ i, i < yss.length → (mxAt yss i).length + totS (mxAt yss i) (mxAt yss i).length ≤ 1000) (hn : totM yss yss.length ≤ 1000000) (hmx : yss.length ≤ 1048576) (ho : MxsP w B (.slice a n cap) n vl yss lo hi) (hBw : B ≤ w.heap.size) :
    Calls Try.prog 39 #[.slice a n cap, .int .i64 k] w fun e w' => e = .returned (.int .i64 (k + ((totM yss yss.length : Nat) : Int))) ∧ MxsP w' B (.slice a n cap) n vl (mkY yss k) lo hi ∧ Below B w w' := by
  subst hnl
  have HO := Lib.hid ho
  have HS := Lib.hid hs
  have HLEN : Hid (w.ownsRow B 39 1 (.slice a yss.length cap) yss.length vl) := ho.own
  go_enter Try.func39, Try.ntmps39
  clear ho hs
  go_wp2_with fail
  go_loopw [1, 5] (fun k' i wr => ∃ j : Nat, j ≤ yss.length ∧ i = .int .i64 j ∧ k' = .int .i64 (k + ((totM yss j : Nat) : Int)) ∧ Below B w wr ∧ wr.ownsRow B 39 1 (.slice a yss.length cap) yss.length vl ∧ Hid (∀ i, i < yss.length → ∃ ul, RowsP wr (lo i) (valAt vl i) ul (if i < j then mxAt (mkY yss k) i else mxAt yss i) ∧ (∀ c, (valAt vl i).ownBlock = some c → c < hi i) ∧ ∀ m, m < (mxAt yss i).length → ∀ c, (valAt ul m).ownBlock = some c → c < hi i)) (fun _ i _ => yss.length - (intOf i).toNat)
  case atStart => exact ⟨0, Nat.zero_le _, rfl, by simp [totM], Below.refl _ _, HLEN.out, fun i hi => by rw [if_neg (by omega)]; exact HO.out.row i hi⟩
  case round =>
    obtain ⟨j, hj, rfl, rfl, hb, hown, HA⟩ := hrel
    have hbs := hb.size
    by_cases hlt : j < yss.length
    · obtain ⟨ul, hoj, hcj, hdj⟩ := HA.out j hlt
      rw [if_neg (by omega)] at hoj
      have hsj := HS.out j hlt
      have hmn := totM_mono (yss := yss) (i := j) (j := yss.length) (by omega)
      have HN : Hid (totM yss (j+1) = totM yss j + totS (mxAt yss j) (mxAt yss j).length) := rfl
      have hm2 : totM yss j + totS (mxAt yss j) (mxAt yss j).length ≤ totM yss yss.length := by
        have := totM_mono (yss := yss) (i := j+1) (j := yss.length) (by omega)
        rw [HN.out] at this; exact this
      have k1 : (j : Int) < (yss.length : Int) := by omega
      have hvl : vl.length = yss.length := by have := hown.1; simpa using this
      have hcell : ∃ g, a = some ⟨g, 0, none⟩ ∧ wr.cell? ⟨g, j, none⟩ = some (valAt vl j) ∧ g < wr.heap.size := by
        rcases hown.2 with ⟨e, h00⟩ | ⟨g, cap', cur, e, hbg, hg, _⟩
        · omega
        · simp only [Value.slice.injEq] at e
          obtain ⟨rfl, _, rfl⟩ := e
          exact ⟨g, rfl, by rw [World.ownsRow.cellAt hown j (by omega), valAt_get (by omega)], (Array.getElem?_eq_some_iff.1 hg).1⟩
      obtain ⟨g, rfl, hc, hgl⟩ := hcell
      have HLO := Lib.hid (HO.out.low j hlt)
      have HOUT := Lib.hid (HO.out.out j hlt)
      obtain ⟨aj, cj, evj⟩ := hoj.o.form
      have HVJ := Lib.hid evj
      have hcut := hoj.cut (Nat.le_refl _)
      have HTC : Hid (∀ i, i < (mxAt yss j).length → ∀ c, (valAt ul i).ownBlock = some c → lo j ≤ c ∧ c < hi j) := fun i hi c e => ⟨(hcut.2 i hi c e).1, hdj i hi c e⟩
      rw [evj] at hc hoj
      have HOJ := Lib.hid hoj
      have HCJ := Lib.hid hcj
      have HDJ := Lib.hid hdj
      obtain ⟨x, hx⟩ : ∃ x, x = totM yss j := ⟨_, rfl⟩
      have HX := Lib.hid hx
      rw [← hx] at hm2 hmn ⊢
      obtain ⟨T, hT⟩ : ∃ T, T = totS (mxAt yss j) (mxAt yss j).length := ⟨_, rfl⟩
      have HT := Lib.hid hT
      rw [← hT] at hm2 hsj
      obtain ⟨L, hL⟩ : ∃ L, L = (mxAt yss j).length := ⟨_, rfl⟩
      have HL := Lib.hid hL
      rw [← hL] at hc hsj
      have HCALL : Hid (Calls Try.prog 46 #[.slice aj L cj, .int .i64 (k + (x : Int))] wr fun e w' => e = .returned (.int .i64 (k + (x : Int) + (T : Int))) ∧ RowsP w' (lo j) (.slice aj (mxAt yss j).length cj) ul (mkS (mxAt yss j) (k + (x : Int))) ∧ TouchS (lo j) (hi j) wr w') := by
        have := markST_any aj L cj ul (mxAt yss j) (k + (x : Int)) (lo j) (lo j) (hi j) wr HL.out (by omega) (by omega) (by rw [← HT.out, ← HL.out]; omega) (by rw [HL.out]; exact HOJ.out) HTC.out
        rw [← HT.out, HL.out] at this
        rw [HL.out]
        exact this
      have HOWN := Lib.hid hown
      clear hoj hcj hdj hcut hx hT hL hown hvl evj
      go_wp2_with fail
      refine HCALL.out.mono ?_
      rintro e w2 ⟨rfl, ho2, ht2⟩
      have hlo := HLO.out
      have b2 : Below B w w2 := hb.trans (ht2.below (by omega) (by omega))
      have HO2 : Hid (w2.ownsRow B 39 1 (.slice (some ⟨g, 0, none⟩) yss.length cap) yss.length vl) := by
        refine ⟨HOWN.out.1, ?_⟩
        rcases HOWN.out.2 with hn | ⟨g', cap', cur, e, hb', hg, rest⟩
        · exact .inl hn
        · refine .inr ⟨g', cap', cur, e, hb', ?_, rest⟩
          rw [ht2.block g' (Array.getElem?_eq_some_iff.1 hg).1 (HOUT.out g' (by rw [e]; rfl))]
          exact hg
      have HA2 : Hid (∀ i, i < yss.length → ∃ ul, RowsP w2 (lo i) (valAt vl i) ul (if i < j + 1 then mxAt (mkY yss k) i else mxAt yss i) ∧ (∀ c, (valAt vl i).ownBlock = some c → c < hi i) ∧ ∀ m, m < (mxAt yss i).length → ∀ c, (valAt ul m).ownBlock = some c → c < hi i) := by
        intro i hi'
        by_cases e : i = j
        · subst e
          rw [if_pos (by omega), mkY_at hi', ← HX.out, HVJ.out]
          refine ⟨ul, ho2, fun c hc => HCJ.out c (by rw [HVJ.out]; exact hc), HDJ.out⟩
        · obtain ⟨tl, h3, h4, h5⟩ := HA.out i hi'
          have hli := HO.out.low i hi'
          have hcc := h3.cut (Nat.le_refl _)
          have hsep : hi i ≤ lo j ∨ hi j ≤ lo i := by
            rcases Nat.lt_or_gt_of_ne e with h | h
            · exact .inl (HO.out.sep i j h hlt)
            · exact .inr (HO.out.sep j i h hi')
          have hl9 : (if i < j then mxAt (mkY yss k) i else mxAt yss i).length = (mxAt yss i).length := by
            split
            · rw [mkY_at hi', mkS_len]
            · rfl
          have h6 := h3.touch ht2 (fun c e1 => by have := h4 c e1; have := (hcc.1 c e1).1; omega) (fun m hm c e1 => by have := h5 m (by omega) c e1; have := (hcc.2 m hm c e1).1; omega)
          refine ⟨tl, ?_, h4, h5⟩
          by_cases e5 : i < j
          · rw [if_pos e5] at h6
            rw [if_pos (by omega)]; exact h6
          · rw [if_neg e5] at h6
            rw [if_neg (by omega)]; exact h6
      clear ho2 ht2 hlo
      go_wp2_with fail
      go_roundw
      case rel => exact ⟨j + 1, by omega, by go_num, val_int (by rw [HN.out, ← HX.out, ← HT.out]; omega), b2, HO2.out, HA2⟩
      case measure => simp [intOf]; omega
    · obtain rfl : j = yss.length := by omega
      go_wp2_with fail
      go_ret
      refine ⟨rfl, ⟨hown, by rw [mkY_len]; exact Nat.le_refl _, fun i hi' => ?_, fun i hi' => ?_, fun i j h1 h2 => ?_, fun i hi' => ?_⟩, hb⟩
      · rw [mkY_len] at hi'
        obtain ⟨tl, h3, h4, h5⟩ := HA.out i hi'
        rw [if_pos hi'] at h3
        exact ⟨tl, h3, h4, fun m hm => h5 m (by rw [mkY_at hi', mkS_len] at hm; exact hm)⟩
      · rw [mkY_len] at hi'
        have := HO.out.low i hi'; omega
      · rw [mkY_len] at h2
        exact HO.out.sep i j h1 h2
      · rw [mkY_len] at hi'
        exact HO.out.out i hi'

theorem heldIntS_any (a : Option Addr) (n cap : Nat) (k : Int) (w : World) (h0 : 0 ≤ k) (h1 : k ≤ 1099511627776) (hn : n ≤ 1048576) (hx : Rd w a (marks k n)) :
    Calls Try.prog 33 #[.slice a n cap, .int .i64 k] w fun e w' => e = .returned (.int .i64 (k + n)) ∧ Below w.heap.size w w' := by
  go_enter Try.func33, Try.ntmps33
  go_wp2_with fail
  go_loop [1, 5] (fun k' i => ∃ j : Nat, j ≤ n ∧ i = .int .i64 j ∧ k' = .int .i64 (k + j)) (fun _ i => n - (intOf i).toNat)
  case atStart => exact ⟨0, Nat.zero_le _, rfl, by simp⟩
  case round =>
    obtain ⟨j, hj, rfl, rfl⟩ := hrel
    by_cases hlt : j < n
    · obtain ⟨b, off, rfl, hbl, hc⟩ := hx.cell j (by rw [marks_len]; exact hlt)
      rw [marks_nth hlt] at hc
      go_wp2_with fail
      go_round
      case rel => exact ⟨j + 1, by omega, by go_num, by go_num⟩
      case measure => simp [intOf]; omega
    · obtain rfl : j = n := by omega
      go_wp2_with fail
      go_ret
      exact ⟨rfl, (by repeat (first | exact Below.refl _ _ | assumption | refine Below.alloc ?_ (by first | exact Nat.le_refl _ | (simp only [World.size_alloc, World.size_setCell, World.size_drew]; omega) | omega) _ | refine Below.setCell ?_ (by first | exact Nat.le_refl _ | (simp only [World.size_alloc, World.size_setCell, World.size_drew]; omega) | omega) _ | refine Below.drew ?_))⟩

set_option maxRecDepth 100000 in
theorem heldSS_any (a : Option Addr) (n cap : Nat) (xss : List (List Int)) (k : Int) (w : World) (hnl : n = xss.length) (h0 : 0 ≤ k) (h1 : k ≤ 1048576) (hn : xss.length + totS xss xss.length ≤ 1048576) (hx : RdS w a (mkS xss k)) :
    Calls Try.prog 47 #[.slice a n cap, .int .i64 k] w fun e w' => e = .returned (.int .i64 (k + ((totS xss xss.length : Nat) : Int))) ∧ Below w.heap.size w w' := by
  subst hnl
  have hmax : xss.length ≤ 1048576 := by omega
  go_enter Try.func47, Try.ntmps47
  go_wp2_with fail
  go_loopw [1, 5] (fun k' i wr => ∃ j : Nat, j ≤ xss.length ∧ i = .int .i64 j ∧ k' = .int .i64 (k + ((totS xss j : Nat) : Int)) ∧ Below w.heap.size w wr) (fun _ i _ => xss.length - (intOf i).toNat)
  case atStart => exact ⟨0, Nat.zero_le _, rfl, by simp [totS], Below.refl _ _⟩
  case round =>
    obtain ⟨j, hj, rfl, rfl, hb⟩ := hrel
    by_cases hlt : j < xss.length
    · have hrt := row_tot (xss := xss) hlt
      have hmn := totS_mono (xss := xss) (j := j) (k := xss.length) (by omega)
      have HN : Hid (totS xss (j+1) = totS xss j + (rowL xss j).length) := rfl
      have k1 : (j : Int) < (xss.length : Int) := by omega
      obtain ⟨b1, off1, a1, cap1, rfl, hbl1, hc1, hr1⟩ := (hx.below hb).row j (by rw [mkS_len]; exact hlt)
      rw [mkS_row hlt] at hc1 hr1
      have hml : (marks (k + ((totS xss j : Nat) : Int)) (rowL xss j).length).length = (rowL xss j).length := by simp [marks]
      rw [hml] at hc1
      clear hml
      have hro : (rowL xss j).length ≤ 1048576 := by omega
      have hcall := heldIntS_any a1 (rowL xss j).length cap1 (k + ((totS xss j : Nat) : Int)) wr (by omega) (by omega) hro hr1
      have HCL := Lib.hid hcall
      have hge : ¬ (k + ((totS xss j : Nat) : Int) + (((rowL xss j).length : Nat) : Int) < 0) := by omega
      have hbs := hb.size
      clear hcall hr1
      go_wp2_with fail
      refine HCL.out.mono ?_
      rintro e w2 ⟨rfl, hb2⟩
      go_wp2_with fail
      go_roundw
      case rel => exact ⟨j + 1, by omega, by go_num, val_int (by rw [HN.out]; omega), hb.trans (hb2.mono hbs)⟩
      case measure => simp [intOf]; omega
    · obtain rfl : j = xss.length := by omega
      go_wp2_with fail
      go_ret
      exact ⟨rfl, hb⟩

set_option maxRecDepth 100000 in
theorem heldMxS_any (a : Option Addr) (n cap : Nat) (yss : List (List (List Int))) (k : Int) (w : World) (hnl : n = yss.length) (h0 : 0 ≤ k) (h1 : k ≤ 1000) (hs : ∀ i, i < yss.length → (mxAt yss i).length + totS (mxAt yss i) (mxAt yss i).length ≤ 1000) (hn : totM yss yss.length ≤ 1000000) (hx : RdM w a (mkY yss k)) :
    Calls Try.prog 40 #[.slice a n cap, .int .i64 k] w fun e w' => e = .returned (.int .i64 (k + ((totM yss yss.length : Nat) : Int))) ∧ Below w.heap.size w w' := by
  subst hnl
  have hlen := hx.len
  rw [mkY_len] at hlen
  have HS := Lib.hid hs
  go_enter Try.func40, Try.ntmps40
  clear hs
  go_wp2_with fail
  go_loopw [1, 5] (fun k' i wr => ∃ j : Nat, j ≤ yss.length ∧ i = .int .i64 j ∧ k' = .int .i64 (k + ((totM yss j : Nat) : Int)) ∧ Below w.heap.size w wr) (fun _ i _ => yss.length - (intOf i).toNat)
  case atStart => exact ⟨0, Nat.zero_le _, rfl, by simp [totM], Below.refl _ _⟩
  case round =>
    obtain ⟨j, hj, rfl, rfl, hb⟩ := hrel
    have hbs := hb.size
    by_cases hlt : j < yss.length
    · have hsj := HS.out j hlt
      have HN : Hid (totM yss (j+1) = totM yss j + totS (mxAt yss j) (mxAt yss j).length) := rfl
      have hm2 : totM yss j + totS (mxAt yss j) (mxAt yss j).length ≤ totM yss yss.length := by
        have := totM_mono (yss := yss) (i := j+1) (j := yss.length) (by omega)
        rw [HN.out] at this; exact this
      have k1 : (j : Int) < (yss.length : Int) := by omega
      obtain ⟨b1, off1, a1, cap1, rfl, hbl1, hc1, hr1⟩ := (hx.below hb).row j (by rw [mkY_len]; exact hlt)
      rw [mkY_at hlt] at hc1 hr1
      rw [mkS_len] at hc1
      obtain ⟨x, hx'⟩ : ∃ x, x = totM yss j := ⟨_, rfl⟩
      have HX := Lib.hid hx'
      rw [← hx'] at hm2 hr1 ⊢
      obtain ⟨T, hT⟩ : ∃ T, T = totS (mxAt yss j) (mxAt yss j).length := ⟨_, rfl⟩
      have HT := Lib.hid hT
      rw [← hT] at hm2 hsj
      have HCALL : Hid (Calls Try.prog 47 #[.slice a1 (mxAt yss j).length cap1, .int .i64 (k + (x : Int))] wr fun e w' => e = .returned (.int .i64 (k + (x : Int) + (T : Int))) ∧ Below wr.heap.size wr w') := by
        have := heldSS_any a1 (mxAt yss j).length cap1 (mxAt yss j) (k + (x : Int)) wr rfl (by omega) (by omega) (by rw [← HT.out]; omega) hr1.rd
        rw [← HT.out] at this
        exact this
      have hge : ¬ (k + (x : Int) + (T : Int) < 0) := by omega
      obtain ⟨L, hL⟩ : ∃ L, L = (mxAt yss j).length := ⟨_, rfl⟩
      have HL := Lib.hid hL
      rw [← hL] at hc1 HCALL hsj
      clear hr1 hx' hT hL
      go_wp2_with fail
      refine HCALL.out.mono ?_
      rintro e w2 ⟨rfl, hb2⟩
      go_wp2_with fail
      go_roundw
      case rel => exact ⟨j + 1, by omega, by go_num, val_int (by rw [HN.out, ← HX.out, ← HT.out]; omega), hb.trans (hb2.mono hbs)⟩
      case measure => simp [intOf]; omega
    · obtain rfl : j = yss.length := by omega
      go_wp2_with fail
      go_ret
      exact ⟨rfl, hb⟩

theorem lmL_tot (n : Int) : totM (lmL n) (lmL n).length ≤ 1000000 := by
  have h : ∀ j, j ≤ (lmL n).length → totM (lmL n) j ≤ j * 200 := by
    intro j
    induction j with
    | zero => intro _; simp [totM]
    | succ j ih =>
      intro hj
      have h4 := ih (by omega)
      have h5 := lmL_size (n := n) j (by omega)
      simp only [totM]
      omega
  have h1 := h _ (Nat.le_refl _)
  have h2 := laL_le n
  rw [lmL_len] at h1 ⊢
  omega
theorem walk (i0 : Int) (w : World) (hi0 : -9223372036854775808 ≤ i0 ∧ i0 ≤ 9223372036854775807) :
    Calls Try.prog 9 #[.int .i64 i0] w fun e w' => e = .returned (.bool true) ∧ Below w.heap.size w w' := by
  have hT := lmL_tot i0
  have hS := Lib.hid (fun i hi => Nat.le_trans (lmL_size (n := i0) i hi) (show 200 ≤ 1000 by omega))
  have hll := laL_le i0
  have HLN := Lib.hid (lmL_len i0).symm
  have hll2 : (lmL i0).length ≤ 1048576 := by rw [← HLN.out]; omega
  go_enter Try.func9, Try.ntmps9
  go_wp2_with fail
  refine (sLM_any _ _ hi0).mono ?_
  rintro e w1 ⟨pR, qR, rfl, hR1, hb⟩
  have bw1 : Below w.heap.size w w1 := Below.trans (by repeat (first | exact Below.refl _ _ | assumption | refine Below.alloc ?_ (by first | exact Nat.le_refl _ | (simp only [World.size_alloc, World.size_setCell, World.size_drew]; omega) | omega) _ | refine Below.setCell ?_ (by first | exact Nat.le_refl _ | (simp only [World.size_alloc, World.size_setCell, World.size_drew]; omega) | omega) _ | refine Below.drew ?_)) (hb.mono (by first | (simp only [World.size_alloc, World.size_setCell, World.size_drew]; omega) | omega))
  clear hb
  go_wp2_with fail
  refine (iLM_any _ _ hi0).mono ?_
  rintro e w2 ⟨pG, qG, vG, lo, hi, rfl, hG2, hb⟩
  have hR2 := hR1.below hb
  have bw2 : Below w.heap.size w w2 := bw1.trans (hb.mono bw1.size)
  have z12 := hb.size
  have hgr := hb
  clear hb
  go_wp2_with fail
  refine (eqMxS_any _ _ _ (lmL i0) _ _ _ HLN.out (hG2.rd hll2) hR2).mono ?_
  rintro e w3 ⟨rfl, hb⟩
  have hG3 := hG2.below hb (Nat.le_refl _)
  have hg3 : Below w1.heap.size w1 w3 := hgr.trans (hb.mono z12)
  have bw3 : Below w.heap.size w w3 := bw2.trans (hb.mono bw2.size)
  have z3 := hg3.size
  clear hb hG2 hR2 hgr
  go_wp2_with fail
  refine (markMxS_any _ _ _ _ (lmL i0) lo hi 1 w1.heap.size _ HLN.out (by omega) (by omega) hS.out hT hll2 hG3 z3).mono ?_
  rintro e w4 ⟨rfl, hG4, hb⟩
  have hg4 : Below w1.heap.size w1 w4 := hg3.trans hb
  have hR4 := hR1.below hg4
  have bw4 : Below w.heap.size w w4 := bw3.trans (hb.mono bw1.size)
  have hM4 := hG4.rd (by rw [mkY_len]; exact hll2)
  clear hb hG3 hG4 hg3 hg4
  go_wp2_with fail
  refine (heldMxS_any _ _ _ (lmL i0) 1 _ HLN.out (by omega) (by omega) hS.out hT hM4).mono ?_
  rintro e w5 ⟨rfl, hb⟩
  have hM5 := hM4.below hb
  have hR5 := hR4.below hb
  have bw5 : Below w.heap.size w w5 := bw4.trans (hb.mono bw4.size)
  clear hb hM4 hR4
  go_wp2_with fail
  refine (iLM_any _ _ hi0).mono ?_
  rintro e w6 ⟨pH, qH, vH, loH, hiH, rfl, hH6, hb⟩
  have hM6 := hM5.below hb
  have hR6 := hR5.below hb
  have bw6 : Below w.heap.size w w6 := bw5.trans (hb.mono bw5.size)
  clear hb hM5 hR5
  go_wp2_with fail
  refine (eqMxS_any _ _ _ (lmL i0) _ _ _ HLN.out (hH6.rd hll2) hR6).mono ?_
  rintro e w7 ⟨rfl, hb⟩
  have hM7 := hM6.below hb
  have bw7 : Below w.heap.size w w7 := bw6.trans (hb.mono bw6.size)
  clear hb hM6 hR6 hH6
  go_wp2_with fail
  refine (heldMxS_any _ _ _ (lmL i0) 1 _ HLN.out (by omega) (by omega) hS.out hT hM7).mono ?_
  rintro e w8 ⟨rfl, hb⟩
  have bw8 : Below w.heap.size w w8 := bw7.trans (hb.mono bw7.size)
  clear hb hM7
  go_wp2_with fail
  go_ret
  exact ⟨rfl, bw8⟩

theorem rd_of_trod {H : Type} {enc : TypeId × Value → H} {W : World} {fuel : Nat} {c : Value} {y : DataW H × List MemPlace}
    (h : DataW.trod enc Try.prog W 0 (fun _ => true) true fuel 22 [c] = some y) : ∃ (a : Option Addr) (xs : List Int) (cap : Nat), c = .slice a xs.length cap ∧ Rd W a xs ∧ ∀ k, k < xs.length → (Lit.int .i64 (nth xs k)).wf = true := by
  rcases Go.ChangeShapes.open_ints Try.underlying22 Try.underlying3 (by kernel_rfl) h with ⟨hcs, _⟩ | ⟨x, len, cap, zs, hcs, _, hl, hm, hz, _, hcell, hwf⟩
  · simp only [List.cons.injEq, and_true] at hcs
    exact ⟨none, [], 0, hcs, ⟨by simp, fun k hk => by simp at hk⟩, fun k hk => by simp at hk⟩
  · simp only [List.cons.injEq, and_true] at hcs
    simp only [if_true] at hz
    have hlen : (zs.take len).length = len := by rw [List.length_take]; omega
    have hn : ∀ k, k < len → nth (zs.take len) k = zs.getD k 0 := by
      intro k hk
      simp only [nth, List.getD_eq_getElem?_getD, List.getElem?_take, hk, if_true]
    refine ⟨some x, zs.take len, cap, by rw [hlen]; exact hcs, ⟨by rw [hlen]; unfold maxLen at hm; omega, fun k hk => ?_⟩, fun k hk => ?_⟩
    · rw [hlen] at hk
      obtain ⟨b, off, sp⟩ := x
      have h0 := hcell 0 (by omega)
      have hsp : sp = none := by simpa [Addr.add] using World.cell?_spot h0
      subst hsp
      have hk' := hcell k (by omega)
      rw [Addr.add_lit] at hk'
      exact ⟨b, off, rfl, World.block_lt_of_cell? _ _ h0, by rw [hk', hn k hk]⟩
    · rw [hlen] at hk
      rw [hn k hk]
      have hk2 : k < zs.length := by omega
      exact hwf _ (by rw [List.getD_eq_getElem?_getD, List.getElem?_eq_getElem hk2]; exact List.getElem_mem hk2)

theorem own : ownKnob Try.prog.godebug = none := by kernel_rfl
theorem laidOut : laidOutB Try.prog = true := by kernel_rfl
theorem wf_bd {n : Int} (h : (Lit.int .i64 n).wf = true) : -9223372036854775808 ≤ n ∧ n ≤ 9223372036854775807 := by
  simp [Lit.wf, IntKind.min, IntKind.max, IntKind.bits, IntKind.signed] at h
  omega

open Go.ChangeShapes Go.WideShapes Go.ChangeAt Go.RowKit in
set_option maxRecDepth 100000 in
theorem lifted (os : Os) (started : os.Started) (H : Type) (enc : TypeId × Value → H) :
    ReturnsInHanded {} Try.checked os 9 .any (Rows.fnExactListMatricesSpec.pre6 enc Try.prog Try.f9 Rows.fnExactListMatricesRow.domain false) (Rows.fnExactListMatricesSpec.post enc Try.prog Try.f9 false true false false) := by
  refine returnsInHanded_of_change (C := Try.checked) own started (by kernel_rfl) Try.func9
    (ChangeSpec.witness6 (enc := enc) (C := Try.checked) false ⟨#[], #[.int .i64 0], []⟩ 8 (by kernel_rfl) (by kernel_rfl) (by kernel_rfl) (by kernel_rfl)) ?_
  intro W base args ds gs before hval0 hW hcnd _
  have hval : ∀ (j : Nat) t v, Try.f9.params[j]? = some t → args[j]? = some v → Value.okWide Try.prog W .any base t v := hval0
  have hW' := hW
  obtain ⟨p, q, hA0, hV, rfl, hfz, hnd⟩ := hW
  have hA : DataW.TrodAll enc Try.prog W 0 (fun _ => true) true Try.f9.params.toList args.toList ds p := hA0
  rw [Try.params9] at hA hval
  obtain ⟨v0, vs0, d0, ds0, p0, q0, hargs, rfl, rfl, h0, r0⟩ := trodAll_cons hA
  obtain ⟨rfl, rfl, rfl⟩ := trodAll_nil r0
  obtain rfl : args = #[v0] := by cases args; simp_all
  obtain ⟨rfl, rfl⟩ := trodVars_none hV
  have lt0 : ∀ x ∈ p0, x.block < W.heap.size := by obtain ⟨m, hm⟩ := h0; exact DataW.trod_lt m _ _ _ hm
  obtain ⟨i0, rfl, hd0, hp0, wf0⟩ := open_int Try.underlying3 (hval 0 3 v0 rfl rfl) h0
  clear hA0 hval0
  refine (walk i0 W (wf_bd wf0)).mono fun e W' ⟨he, bel⟩ => ?_
  subst he
  exact ⟨_, rfl, _, _, _, [], _, [], hW', trodAll_mk1 (shut_bool Try.underlying4 _), (trodAll_cons_mk (Below.trod laidOut (by kernel_rfl) (of_decide_eq_true (by kernel_rfl)) h0 bel lt0) trodAll_mk0), rfl, bel.frame _, fun h => by cases h⟩
theorem proved : Rows.FnExactListMatricesSaid :=
  OpenClaim.holds_of_wide 9 Try.f9 rfl rfl rfl rfl rfl rfl rfl ⟨rfl, rfl, rfl, rfl, rfl⟩ rfl rfl rfl rfl rfl (by kernel_rfl) Try.func9 (by kernel_rfl)
    (of_decide_eq_true (by kernel_rfl)) (by unfold Func.isWrapper; first | (rw [if_pos (by decide +kernel)]; kernel_rfl) | (rw [if_neg (by decide +kernel)]; exact ⟨rfl, rfl⟩))
    (fun os started H enc _ => lifted os started H enc)

end Go.Proofs.Ytpenikceoogmgaa.listMatrices
