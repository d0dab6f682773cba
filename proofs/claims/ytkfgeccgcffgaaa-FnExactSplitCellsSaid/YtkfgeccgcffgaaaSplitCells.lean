/- PROVED: the law FnExactSplitCells returns true for every input, and each of its arguments reads afterwards as before. No conditions. -/
import Derived.Test.YtkfgeccgcffgaaaRows
import Derived.WalkKit
import Derived.WalkSpells
import Derived.WalkLawsBesides
import Derived.Deep.QuietTactic
import Derived.BigQuiet
import Derived.ProofKit
import Derived.OpenShut
import Derived.ShutString
import Derived.ChangeOld
import Derived.Below
import Derived.Lib.SmallJoins
import Derived.Lib.Hide
import Derived.Maps.AppendAt
import Derived.Deep.AppendLies
import Derived.Deep.RegionHeld3
import Derived.Deep.RegionLaw
import Derived.Lib.SliceRun
import Derived.Laws.MakeOwn
import Derived.Laws.OwnMore
import Derived.Deep.DeepCutAuto
import Derived.Test.YtkfgeccgcffgaaaSplitCellsP1
namespace Go.Proofs.Ytkfgeccgcffgaaa.splitCells
open Go Go.RowKit
set_option linter.unusedVariables false
set_option linter.unusedSimpArgs false
set_option maxHeartbeats 400000
/-- a function value that tells for each row and each column -/
def TellsRC (w : World) (fn : Nat) (caps : Array Value) (F : Nat → Nat → Bool) (R C : Nat) : Prop :=
  ∀ (r c : Nat) (w' : World), r < R → c < C → Below w.heap.size w w' → Calls Try.prog fn (#[.int .i64 (r : Int), .int .i64 (c : Int)] ++ caps) w' fun e w'' => e = .returned (.bool (F r c)) ∧ Below w'.heap.size w' w''
set_option maxRecDepth 100000 in
theorem tableBy_any (R C : Nat) (fn : Nat) (caps : Array Value) (F : Nat → Nat → Bool) (w : World) (hR : 1 ≤ R) (hR6 : R ≤ 6) (hC : 1 ≤ C) (hC6 : C ≤ 6) (hE : ∀ args w, (callFunc fn args).run Try.prog w = .ok (.enter fn args) w) (hF : TellsRC w fn caps F R C) :
    Calls Try.prog 62 #[.int .i64 (R : Int), .int .i64 (C : Int), .func (.func fn) #[] caps] w fun e w' => ∃ a cap, e = .returned (.agg #[.int .i64 (R : Int), .int .i64 (C : Int), .slice a R cap]) ∧ OwnI w' w.heap.size (.slice a R cap) (tbL F R C) ∧ Below w.heap.size w w' := by
  obtain ⟨i0, hi, hz0, hz1, hz2⟩ := info_parts infoInt
  have HF := Lib.hid hF
  clear hF
  go_enter Try.func62, Try.ntmps62
  have R1 : Var3 (w.alloc (.cells #[.int .i64 0, .int .i64 0, .slice none 0 0] 27)) w.heap.size (.int .i64 0) (.int .i64 0) (.slice none 0 0) := Var3.new w _ _ _ _
  have bw1 : Below w.heap.size w (w.alloc (.cells #[.int .i64 0, .int .i64 0, .slice none 0 0] 27)) := (by repeat (first | exact Below.refl _ _ | assumption | refine Below.alloc ?_ (by first | exact Nat.le_refl _ | (simp only [World.size_alloc, World.size_setCell, World.size_drew]; omega) | omega) _ | refine Below.setCell ?_ (by first | exact Nat.le_refl _ | (simp only [World.size_alloc, World.size_setCell, World.size_drew]; omega) | omega) _ | refine Below.drew ?_))
  go_wp2_with (at_make; refine wpList_make_full _ rfl (.tmp 13) (.tmp 13) 22 rfl (w.heap.size + 1) 3 i0 (.int .i64 0) 1 Try.underlying22 hi hz0 hz1 .i64 .i64 _ _ R rfl rfl rfl rfl (by rw [hz2]; omega) (by unfold maxLen; omega) (by simp) ?_; intro w2 hown hgrow)
  have R2 := R1.kept hgrow (by simp)
  have hb2 : Below w.heap.size w w2 := bw1.grown hgrow (by simp) (fun k h => by cases h)
  have hown0 : OwnI w2 (w.heap.size + 1) (.slice (some ⟨w.heap.size + 1, 0, none⟩) R R) (tbAt F R C 0) := by
    have := made_row (fun _ => 0) hown
    rw [tbAt_zero]
    simpa [rowF, fmap] using this
  have hz2' : w.heap.size + 2 ≤ w2.heap.size := by have := (hown0.lt _ rfl).2; simp only at this; omega
  have HR := Lib.hid hown0
  have HB := Lib.hid hb2
  have HV := Lib.hid R2
  clear hown hgrow R1 R2 bw1 hown0 hb2
  obtain ⟨D, hD⟩ : ∃ D, D = R * C := ⟨_, rfl⟩
  have hD36 : D ≤ 36 := by rw [hD]; exact Nat.mul_le_mul hR6 hC6
  have hmul : wrap64 ((R : Int) * (C : Int)) = (D : Int) := by
    rw [← Int.natCast_mul, ← hD]
    exact IntWalk.wrap64_in _ ⟨by omega, by omega⟩
  have HD := Lib.hid hD
  clear hD
  obtain ⟨g, hg⟩ : ∃ g, g = w.heap.size + 1 := ⟨_, rfl⟩
  obtain ⟨b7, hb7⟩ : ∃ b7, b7 = w2.heap.size := ⟨_, rfl⟩
  have V7 := Var3.new w2 (.int .i64 (R : Int)) (.int .i64 (C : Int)) (.slice (some ⟨g, 0, none⟩) R R) 27
  have ba : Below w2.heap.size w2 (w2.alloc (.cells #[.int .i64 (R : Int), .int .i64 (C : Int), .slice (some ⟨g, 0, none⟩) R R] 27)) := (by repeat (first | exact Below.refl _ _ | assumption | refine Below.alloc ?_ (by first | exact Nat.le_refl _ | (simp only [World.size_alloc, World.size_setCell, World.size_drew]; omega) | omega) _ | refine Below.setCell ?_ (by first | exact Nat.le_refl _ | (simp only [World.size_alloc, World.size_setCell, World.size_drew]; omega) | omega) _ | refine Below.drew ?_))
  have HS := Lib.hid (And.intro (HR.out.below ba (Nat.le_refl _)) (And.intro (HB.out.trans (ba.mono HB.out.size)) (And.intro (HV.out.below ba) V7)))
  rw [← hg] at HS ⊢
  rw [← hb7] at HS
  have hgb : w.heap.size < g := by omega
  have hgb7 : g < b7 := by omega
  clear V7 ba HR HB HV hg
  go_wp2_with fail
  rw [hmul, ← hb7]
  clear hb7
  go_loopw [19] (fun i wr => ∃ k : Nat, k ≤ D ∧ i = .int .i64 k ∧ OwnI wr g (.slice (some ⟨g, 0, none⟩) R R) (tbAt F R C k) ∧ Below w.heap.size w wr ∧ Var3 wr w.heap.size (.int .i64 0) (.int .i64 0) (.slice none 0 0) ∧ Var3 wr b7 (.int .i64 (R : Int)) (.int .i64 (C : Int)) (.slice (some ⟨g, 0, none⟩) R R)) (fun i _ => D - (intOf i).toNat)
  case atStart => exact ⟨0, Nat.zero_le _, rfl, HS.out⟩
  case round =>
    obtain ⟨k, hk, rfl, hown, hb, hR0, hV⟩ := hrel
    have HR0 := Lib.hid hR0
    have HO := Lib.hid hown
    have HB := Lib.hid hb
    have HV := Lib.hid hV
    have hbs := hb.size
    have ⟨⟨zV, cV, dV, eV⟩, fV, gV, iV⟩ := hV
    by_cases hlt : k < D
    · have hr : k / C < R := Nat.div_lt_of_lt_mul (by rw [Nat.mul_comm, ← HD.out]; exact hlt)
      have hc : k % C < C := Nat.mod_lt _ (by omega)
      have hke : Hid (k = (k / C) * C + k % C) := cell_eq (by omega)
      obtain ⟨r, hrr⟩ : ∃ r, r = k / C := ⟨_, rfl⟩
      obtain ⟨c, hcc⟩ : ∃ c, c = k % C := ⟨_, rfl⟩
      have hP := Lib.hid (fun w' => tabPlace_any (R : Int) C (some ⟨g, 0, none⟩) R R k w' (by omega) hC6 (by omega))
      rw [← hrr, ← hcc] at hke
      rw [← hrr] at hr
      rw [← hcc] at hc
      simp only [← hrr, ← hcc] at hP
      clear hrr hcc hR0 hown hb hV
      go_wp2_with fail
      refine (hP.out _).mono ?_
      rintro e w3 ⟨rfl, hb3⟩
      have b3 := HB.out.trans (hb3.mono hbs)
      have hz3 := b3.size
      go_wp2_with fail
      refine (HF.out r c w3 hr hc b3).mono ?_
      rintro e w4 ⟨rfl, hb4⟩
      have bt : Below wr.heap.size wr w4 := hb3.trans (hb4.mono hb3.size)
      have b4 := HB.out.trans (bt.mono hbs)
      have V4 := HV.out.below bt
      have O4 := HO.out.below bt (Nat.le_refl _)
      have R4 := HR0.out.below bt
      rw [hke.out] at O4
      have ⟨ci, fi⟩ := O4.at' (by rw [tbAt_len]) (i := r) (by rw [tbAt_len]; exact hr)
      rw [tbAt_nth F hr hc] at ci
      have hput := O4.put (by rw [tbAt_len]) r ((rowBits (F r) (c+1) : Nat) : Int)
      rw [tbAt_step F hr hc] at hput
      have hsm := rowBits_small (F r) (k := c) (by omega)
      have HOR : Hid (F r c = true → bits .or .i64 ((rowBits (F r) c : Nat) : Int) (wrap64 (2 ^ c)) = ((rowBits (F r) (c+1) : Nat) : Int)) := fun h => by
        rw [or_bit (by omega) (by omega), rowBits, h, if_pos rfl]
      have HP := Lib.hid hput
      have HO4 := Lib.hid O4
      have HV4 := Lib.hid V4
      have ⟨⟨zV4, cV4, dV4, eV4⟩, fV4, gV4, iV4⟩ := V4
      have r0 : (0 : Int) ≤ (r : Int) := by omega
      have r1 : (r : Int) < (R : Int) := by omega
      have c0 : (0 : Int) ≤ (c : Int) := by omega
      have c1 : (c : Int) < 62 := by omega
      have hD := HD.out
      clear hb3 hb4 hput hsm O4 V4 hP cV dV eV fV gV iV zV hD
      cases hF : F r c
      · have HS : Hid (tbAt F R C (k + 1) = tbAt F R C (r * C + c)) := by
          show tbAt F R C (k + 1) = _
          rw [hke.out]; exact tbAt_skip F hr hc hF
        clear hF
        go_wp2_with fail
        go_roundw
        case rel => exact ⟨k + 1, by omega, by go_num, by rw [HS.out]; exact HO4.out, b4, R4, HV4.out⟩
        case measure => simp [intOf]; omega
      · have HQ := Lib.hid (HOR.out hF)
        have HS : Hid (tbAt F R C (k + 1) = tbAt F R C (r * C + c + 1)) := by
          show tbAt F R C (k + 1) = _
          rw [hke.out]
        clear hF
        go_wp2_with fail
        go_region
        all_goals
          go_wp2_with fail
          go_roundw
          case rel =>
            rw [HQ.out]
            exact ⟨k + 1, by omega, by go_num, by rw [HS.out]; exact HP.out.1, (b4.setCell (p := ⟨g, r, none⟩) (show w.heap.size ≤ g by omega) _).drew, R4.other (p := ⟨g, r, none⟩) _ (show w.heap.size ≠ g by omega), HV4.out.other (p := ⟨g, r, none⟩) _ (show b7 ≠ g by omega)⟩
          case measure => simp [intOf]; omega
    · obtain rfl : k = D := by omega
      have ⟨⟨zR, cR, dR, eR⟩, fR, gR, iR⟩ := hR0
      have HE : Hid (tbAt F R C k = tbL F R C) := by
        show tbAt F R C k = _
        rw [HD.out]; exact tbAt_end F R C
      clear hR0 hown hb hV
      go_wp2_with fail
      have R3 := HR0.out.set (.int .i64 (R : Int)) (.int .i64 (C : Int)) (.slice (some ⟨g, 0, none⟩) R R)
      refine bodyPost_ret (v := .agg #[.int .i64 (R : Int), .int .i64 (C : Int), .slice (some ⟨g, 0, none⟩) R R]) (by have ⟨⟨_, q1, q2, q3⟩, _, _, _⟩ := R3; simp [results, Try.results62, go_sem, q1, q2, q3]) rfl ?_
      refine ⟨some ⟨g, 0, none⟩, R, rfl, ?_, ((HB.out.setCell (p := ⟨w.heap.size, 0, none⟩) (Nat.le_refl _) _).setCell (p := ⟨w.heap.size, 1, none⟩) (Nat.le_refl _) _).setCell (p := ⟨w.heap.size, 2, none⟩) (Nat.le_refl _) _⟩
      rw [← HE.out]
      exact (((HO.out.setBelow (p := ⟨w.heap.size, 0, none⟩) hgb _).setBelow (p := ⟨w.heap.size, 1, none⟩) hgb _).setBelow (p := ⟨w.heap.size, 2, none⟩) hgb _).mono (by omega)

theorem mirTell_any (p : Nat) (n m : Int) (a : Option Addr) (xs : List Int) (cap : Nat) (r c : Nat) (w : World) (hB : Box3 w p (.int .i64 n) (.int .i64 m) (.slice a xs.length cap)) (hx : Rd w a xs) (hp : TabP n m xs) (hc : c < xs.length) :
    Calls Try.prog 63 #[.int .i64 (r : Int), .int .i64 (c : Int), .pointer (some ⟨p, 0, none⟩)] w fun e w' => e = .returned (.bool (hasB (nth xs c) r)) ∧ Below w.heap.size w w' := by
  have ⟨zB, cB, dB, eB⟩ := hB
  have HC := Lib.hid (tabHas_any n m a xs xs.length cap c (r : Int) w hx rfl hc (hp.pos c hc) (by have := hp.small c hc; omega) (by omega))
  have hs := hp.small c hc
  clear hp hx
  go_enter Try.func63, Try.ntmps63
  go_wp2_with fail
  refine HC.out.mono ?_
  rintro e w1 ⟨rfl, hb⟩
  go_wp2_with fail
  go_ret
  exact ⟨rfl, hb⟩
set_option maxRecDepth 100000 in
theorem iMirTab_any (n m : Int) (a : Option Addr) (xs : List Int) (cap : Nat) (w : World) (hn : -9223372036854775808 ≤ n ∧ n ≤ 9223372036854775807) (hm : -9223372036854775808 ≤ m ∧ m ≤ 9223372036854775807) (hx : Rd w a xs) :
    Calls Try.prog 29 #[.agg #[.int .i64 n, .int .i64 m, .slice a xs.length cap]] w (GotT w (mtR n m xs) (mtC n m xs) (mtL n m xs) (tabB n m xs)) := by
  have hb0 : Below w.heap.size w ((w.alloc (.cells #[.int .i64 n, .int .i64 m, .slice a xs.length cap] 27)).alloc (.cells #[.int .i64 0, .int .i64 0, .slice none 0 0] 27)) := (by repeat (first | exact Below.refl _ _ | assumption | refine Below.alloc ?_ (by first | exact Nat.le_refl _ | (simp only [World.size_alloc, World.size_setCell, World.size_drew]; omega) | omega) _ | refine Below.setCell ?_ (by first | exact Nat.le_refl _ | (simp only [World.size_alloc, World.size_setCell, World.size_drew]; omega) | omega) _ | refine Below.drew ?_))
  have A0 := (Box3.new w (.int .i64 n) (.int .i64 m) (.slice a xs.length cap) 27).alloc (.cells #[.int .i64 0, .int .i64 0, .slice none 0 0] 27)
  have V0 := Var3.new (w.alloc (.cells #[.int .i64 n, .int .i64 m, .slice a xs.length cap] 27)) (.int .i64 0) (.int .i64 0) (.slice none 0 0) 27
  rw [World.size_alloc] at V0
  cases hr : tabB n m xs
  · have H1 : Hid (mtR n m xs = 0) := by simp [Hid, mtR, hr]
    have H2 : Hid (mtC n m xs = 0) := by simp [Hid, mtC, hr]
    have H3 : Hid (mtL n m xs = []) := by simp [Hid, mtL, hr]
    have HM := Lib.hid hr
    clear hr
    go_enter Try.func29, Try.ntmps29
    go_wp2_with fail
    refine (iIsTable_any _ _ _ _ _ _ hn hm (hx.below hb0)).mono ?_
    rw [HM.out]
    rintro e w1 ⟨rfl, hb⟩
    have b1 : Below w.heap.size w w1 := hb0.trans (hb.mono (by simp; omega))
    have V1 := V0.below hb
    have ⟨⟨zV, cV, dV, eV⟩, fV, gV, iV⟩ := V1
    clear hb hb0 A0 V0
    go_wp2_with fail
    have V2 := V1.set (.int .i64 0) (.int .i64 0) (.slice none 0 0)
    refine bodyPost_ret (v := .tuple #[.agg #[.int .i64 0, .int .i64 0, .slice none 0 0], .bool false]) (by have ⟨⟨_, q1, q2, q3⟩, _, _, _⟩ := V2; simp [results, Try.results29, go_sem, q1, q2, q3]) rfl ?_
    refine ⟨none, 0, by rw [H1.out, H2.out, H3.out]; rfl, by rw [H3.out]; exact OwnI.nil _ _, ?_⟩
    exact ((b1.setCell (by simp) _).setCell (by simp) _).setCell (by simp) _
  · have hp := tabB_p hr
    obtain ⟨R, rfl⟩ := Int.eq_ofNat_of_zero_le (show 0 ≤ n by have := hp.r0; omega)
    obtain ⟨C, rfl⟩ := Int.eq_ofNat_of_zero_le (show 0 ≤ m by have := hp.c0; omega)
    have r0 : 1 ≤ R := by have := hp.r0; omega
    have r1 : R ≤ 6 := by have := hp.r1; omega
    have c0 : 1 ≤ C := by have := hp.c0; omega
    have c1 : C ≤ 6 := by have := hp.c1; omega
    have hl : xs.length = R := by have := hp.len; omega
    have H1 : Hid (mtR R C xs = C) := by simp [Hid, mtR, hr]
    have H2 : Hid (mtC R C xs = R) := by simp [Hid, mtC, hr]
    have H3 : Hid (mtL R C xs = tbL (fun r c => hasB (nth xs c) r) C R) := by simp [Hid, mtL, hr]
    have HM := Lib.hid hr
    have HPT := Lib.hid hp
    have HL := Lib.hid hl
    clear hr hp hl
    go_enter Try.func29, Try.ntmps29
    go_wp2_with fail
    refine (iIsTable_any _ _ _ _ _ _ hn hm (hx.below hb0)).mono ?_
    rw [HM.out]
    rintro e w1 ⟨rfl, hb⟩
    have b1 : Below w.heap.size w w1 := hb0.trans (hb.mono (by simp; omega))
    have A1 := A0.below hb
    have V1 := V0.below hb
    have hTell : TellsRC w1 63 #[.pointer (some ⟨w.heap.size, 0, none⟩)] (fun r c => hasB (nth xs c) r) C R := fun r c w' hr hc hb' =>
      mirTell_any w.heap.size _ _ a xs cap r c w' (A1.below hb') ((hx.below b1).below hb') HPT.out (by rw [HL.out]; exact hc)
    have HT := Lib.hid hTell
    have ⟨zA, cA, dA, eA⟩ := A1
    have HV := Lib.hid V1
    have hz1 : w.heap.size + 2 ≤ w1.heap.size := by have := V1.1.1; omega
    clear hb hb0 A0 V0 V1 hTell
    go_wp2_with fail
    refine (tableBy_any C R _ _ _ _ c0 c1 r0 r1 Try.call63 HT.out).mono ?_
    rintro e w2 ⟨a2, cap2, rfl, ho2, hb2⟩
    have V2 := HV.out.below hb2
    have b2 := b1.trans (hb2.mono b1.size)
    have ⟨⟨zV, cV, dV, eV⟩, fV, gV, iV⟩ := V2
    go_wp2_with fail
    have V3 := V2.set (.int .i64 C) (.int .i64 R) (.slice a2 C cap2)
    refine bodyPost_ret (v := .tuple #[.agg #[.int .i64 C, .int .i64 R, .slice a2 C cap2], .bool true]) (by have ⟨⟨_, q1, q2, q3⟩, _, _, _⟩ := V3; simp [results, Try.results29, go_sem, q1, q2, q3]) rfl ?_
    refine ⟨a2, cap2, by rw [H1.out, H2.out, H3.out, tbL_len], ?_, ((b2.setCell (by simp) _).setCell (by simp) _).setCell (by simp) _⟩
    rw [H3.out, tbL_len]
    exact (((ho2.setBelow (p := ⟨w.heap.size + 1, 0, none⟩) (show w.heap.size + 1 < w1.heap.size by omega) _).setBelow (p := ⟨w.heap.size + 1, 1, none⟩) (show w.heap.size + 1 < w1.heap.size by omega) _).setBelow (p := ⟨w.heap.size + 1, 2, none⟩) (show w.heap.size + 1 < w1.heap.size by omega) _).mono (by omega)

theorem iIsRelation_any (n : Int) (a : Option Addr) (xs : List Int) (cap : Nat) (w : World) (_hn : -9223372036854775808 ≤ n ∧ n ≤ 9223372036854775807) (hx : Rd w a xs) :
    Calls Try.prog 91 #[.agg #[.int .i64 n, .slice a xs.length cap]] w fun e w' => e = .returned (.bool (relB n xs)) ∧ Below w.heap.size w w' := by
  have hx1 := hx.alloc (.cells #[.int .i64 n, .slice a xs.length cap] 46)
  have hlen := hx.len
  by_cases h0 : 0 ≤ n
  · by_cases h1 : n ≤ 10
    · cases h2 : ((xs.length : Int) == n)
      · have HR : Hid (relB n xs = false) := by
          have : ¬ (xs.length : Int) = n := by simpa using h2
          simp [Hid, relB, this]
        go_enter Try.func91, Try.ntmps91
        go_wp2_with fail
        go_ret
        exact ⟨ret_bool HR.out.symm, (by repeat (first | exact Below.refl _ _ | assumption | refine Below.alloc ?_ (by first | exact Nat.le_refl _ | (simp only [World.size_alloc, World.size_setCell, World.size_drew]; omega) | omega) _ | refine Below.setCell ?_ (by first | exact Nat.le_refl _ | (simp only [World.size_alloc, World.size_setCell, World.size_drew]; omega) | omega) _ | refine Below.drew ?_))⟩
      · have HR : Hid (relB n xs = allB xs 0 (2 ^ n.toNat - 1)) := by
          have : (xs.length : Int) = n := by simpa using h2
          simp [Hid, relB, inB, h0, h1, this]
        go_enter Try.func91, Try.ntmps91
        go_wp2_with fail
        refine (areSets_any _ _ _ _ _ hx1 h0 h1).mono ?_
        rintro e w' ⟨rfl, rfl⟩
        go_wp2_with fail
        go_ret
        exact ⟨ret_bool HR.out.symm, (by repeat (first | exact Below.refl _ _ | assumption | refine Below.alloc ?_ (by first | exact Nat.le_refl _ | (simp only [World.size_alloc, World.size_setCell, World.size_drew]; omega) | omega) _ | refine Below.setCell ?_ (by first | exact Nat.le_refl _ | (simp only [World.size_alloc, World.size_setCell, World.size_drew]; omega) | omega) _ | refine Below.drew ?_))⟩
    · have HR : Hid (relB n xs = false) := by simp [Hid, relB, inB]; omega
      go_enter Try.func91, Try.ntmps91
      go_wp2_with fail
      go_ret
      exact ⟨ret_bool HR.out.symm, (by repeat (first | exact Below.refl _ _ | assumption | refine Below.alloc ?_ (by first | exact Nat.le_refl _ | (simp only [World.size_alloc, World.size_setCell, World.size_drew]; omega) | omega) _ | refine Below.setCell ?_ (by first | exact Nat.le_refl _ | (simp only [World.size_alloc, World.size_setCell, World.size_drew]; omega) | omega) _ | refine Below.drew ?_))⟩
  · have HR : Hid (relB n xs = false) := by simp [Hid, relB, inB]; omega
    go_enter Try.func91, Try.ntmps91
    go_wp2_with fail
    go_ret
    exact ⟨ret_bool HR.out.symm, (by repeat (first | exact Below.refl _ _ | assumption | refine Below.alloc ?_ (by first | exact Nat.le_refl _ | (simp only [World.size_alloc, World.size_setCell, World.size_drew]; omega) | omega) _ | refine Below.setCell ?_ (by first | exact Nat.le_refl _ | (simp only [World.size_alloc, World.size_setCell, World.size_drew]; omega) | omega) _ | refine Below.drew ?_))⟩

theorem sliceClone_any (a : Option Addr) (xs : List Int) (cap : Nat) (w : World) (hx : Rd w a xs) (hn : xs.length ≤ 1048576) :
    Calls Try.prog 96 #[.slice a xs.length cap] w fun e w' => ∃ a' cap', e = .returned (.slice a' xs.length cap') ∧ OwnI w' w.heap.size (.slice a' xs.length cap') xs ∧ Below w.heap.size w w' := by
  obtain ⟨i0, hi, hz0, hz1, hz2⟩ := info_parts infoInt
  have hown : (w.alloc (.cells #[] 3)).ownsRow w.heap.size 3 1 (.slice (some ⟨w.heap.size, 0, none⟩) 0 0) 0 [] := World.ownsRow_lit w #[] 0 (Nat.le_refl _) (by simp [maxLen]) (by simp)
  cases a with
  | none =>
    have h0 : xs = [] := by
      rcases xs with _ | ⟨x, t⟩
      · rfl
      · obtain ⟨b, off, e, _⟩ := hx.cell 0 (by simp)
        cases e
    subst h0
    have hq := Lib.run_eql_slice_nil (P := Try.prog) w 22 3 none 0 cap 0 0 Try.underlying22
    simp only [Option.isNone_none] at hq
    go_enter Try.func96, Try.ntmps96
    go_wp2_with fail
    go_ret
    exact ⟨none, 0, rfl, OwnI.nil _ _, Below.refl _ _⟩
  | some ad =>
    have hx1 := hx.alloc (.cells #[] 3)
    have hq := Lib.run_eql_slice_nil (P := Try.prog) w 22 3 (some ad) xs.length cap 0 0 Try.underlying22
    simp only [Option.isNone_some] at hq
    go_enter Try.func96, Try.ntmps96
    go_wp2_with (at_builtin; refine wpList_append_own _ rfl _ _ 22 rfl w.heap.size 3 i0 (.int .i64 0) 1 8 Try.underlying22 hi hz0 hz1 hz2 rfl (by decide) _ 0 [] rfl hown ad xs.length cap (xs.map (Value.int .i64)) rfl (by simp) ?c1 ?c2 ?c3 ?c4 ?c5 ?_)
    case c1 => exact rd_news hx1
    case c2 => exact ints_one xs
    case c3 => unfold maxLen; omega
    case c4 => omega
    case c5 => simp
    · intro v' w1 hown' hgrow _
      try simp only [Nat.zero_add, List.nil_append] at hown'
      have hb : Below w.heap.size w w1 := ((Below.refl _ _).alloc (Nat.le_refl _) _).grown hgrow (by simp) (fun b e => by simp [Value.ownBlock] at e; omega)
      obtain ⟨a', cap', rfl⟩ := OwnI.form (xs := xs) hown'
      have HO := Lib.hid hown'
      clear hown' hgrow hown
      go_wp2_with fail
      go_ret
      exact ⟨a', cap', rfl, HO.out, hb⟩

def belows (xs : List Int) (k : Nat) : List Int := fmap (fun i => ((belowTo xs i xs.length : Nat) : Int)) k
theorem belows_len (xs : List Int) (k : Nat) : (belows xs k).length = k := fmap_len _ _

def mirN (n : Int) (xs : List Int) : Int := if relB n xs then n else 0
def mirL (n : Int) (xs : List Int) : List Int := if relB n xs then belows xs xs.length else []
theorem mirL_len (n : Int) (xs : List Int) : (mirL n xs).length ≤ 1048576 := by
  unfold mirL
  split
  · rename_i h
    have hp := relB_p h
    have := hp.len
    have := hp.n1
    rw [belows_len]
    omega
  · simp
/-- what a call hands back that makes an order -/
def GotO (w : World) (n : Int) (ys : List Int) (ok : Bool) (e : Ending) (w' : World) : Prop :=
  ∃ a cap, e = .returned (.tuple #[.agg #[.int .i64 n, .slice a ys.length cap], .bool ok]) ∧ OwnI w' w.heap.size (.slice a ys.length cap) ys ∧ Below w.heap.size w w'

theorem iCloseRelation_any (n : Int) (a : Option Addr) (xs : List Int) (cap : Nat) (w : World) (hn : -9223372036854775808 ≤ n ∧ n ≤ 9223372036854775807) (hx : Rd w a xs) :
    Calls Try.prog 78 #[.agg #[.int .i64 n, .slice a xs.length cap]] w (GotO w (cloN n xs) (cloL n xs) (relB n xs)) := by
  have hx1 := (hx.alloc (.cells #[.int .i64 n, .slice a xs.length cap] 46)).alloc (.cells #[.int .i64 0, .slice none 0 0] 46)
  cases hr : relB n xs
  · have H1 : Hid (cloN n xs = 0) := by simp [Hid, cloN, hr]
    have H2 : Hid (cloL n xs = []) := by simp [Hid, cloL, hr]
    go_enter Try.func78, Try.ntmps78
    go_wp2_with fail
    refine (iIsRelation_any _ _ _ _ _ hn hx1).mono ?_
    rintro e w1 ⟨rfl, hb1⟩
    have hz := hb1.size
    simp only [World.size_alloc] at hz
    obtain ⟨hc, hf⟩ := bcell hb1
    have bw1 : Below w.heap.size w w1 := Below.trans (by repeat (first | exact Below.refl _ _ | assumption | refine Below.alloc ?_ (by first | exact Nat.le_refl _ | (simp only [World.size_alloc, World.size_setCell, World.size_drew]; omega) | omega) _ | refine Below.setCell ?_ (by first | exact Nat.le_refl _ | (simp only [World.size_alloc, World.size_setCell, World.size_drew]; omega) | omega) _ | refine Below.drew ?_)) (hb1.mono (by first | (simp only [World.size_alloc, World.size_setCell, World.size_drew]; omega) | omega))
    go_wp2_with fail
    refine bodyPost_ret (v := .tuple #[.agg #[.int .i64 0, .slice none 0 0], .bool false]) (by simp [results, Try.results78, go_sem, hc]) rfl ?_
    refine ⟨none, 0, ?_, ?_, ?_⟩
    · rw [H1.out, H2.out]; rfl
    · rw [H2.out]; exact OwnI.nil _ _
    · exact (bw1.setCell (by simp) _).setCell (by simp) _
  · have hp := relB_p hr
    have hsm := hp.sm
    have hl10 : xs.length ≤ 10 := by have := hp.len; have := hp.n1; omega
    have H1 : Hid (cloN n xs = n) := by simp [Hid, cloN, hr]
    have H2 : Hid (cloL n xs = clAll xs xs.length) := by simp [Hid, cloL, hr]
    go_enter Try.func78, Try.ntmps78
    go_wp2_with fail
    refine (iIsRelation_any _ _ _ _ _ hn hx1).mono ?_
    rintro e w1 ⟨rfl, hb1⟩
    have A1 : Box2 w1 w.heap.size (.int .i64 n) (.slice a xs.length cap) := ((Box2.new w _ _ _).below ((Below.refl _ _).alloc (Nat.le_refl _) _)).below hb1
    have R1 : Var2 w1 (w.heap.size + 1) (.int .i64 0) (.slice none 0 0) := by
      have := (Var2.new (w.alloc (.cells #[.int .i64 n, .slice a xs.length cap] 46)) (.int .i64 0) (.slice none 0 0) 46).below hb1
      simpa using this
    have ⟨zA, cA, dA⟩ := A1
    have bw1 : Below w.heap.size w w1 := Below.trans (by repeat (first | exact Below.refl _ _ | assumption | refine Below.alloc ?_ (by first | exact Nat.le_refl _ | (simp only [World.size_alloc, World.size_setCell, World.size_drew]; omega) | omega) _ | refine Below.setCell ?_ (by first | exact Nat.le_refl _ | (simp only [World.size_alloc, World.size_setCell, World.size_drew]; omega) | omega) _ | refine Below.drew ?_)) (hb1.mono (by first | (simp only [World.size_alloc, World.size_setCell, World.size_drew]; omega) | omega))
    have hz1 : w.heap.size + 2 ≤ w1.heap.size := by have := R1.1.1; omega
    clear hb1
    go_wp2_with fail
    refine (sliceClone_any _ _ _ _ (hx.below bw1) (by omega)).mono ?_
    rintro e w2 ⟨a2, cap2, rfl, ho2, ht2⟩
    have A2 := A1.below ht2
    have R2 := R1.below ht2
    have bw2 := bw1.trans (ht2.mono bw1.size)
    have hz2 := ht2.size
    have ho2' := ho2.mono (B' := w.heap.size + 2) hz1
    clear A1 R1 cA dA ho2 ht2
    go_wp2_with fail
    go_loopw [16] (fun i wr => ∃ k : Nat, k ≤ xs.length ∧ i = .int .i64 k ∧ OwnI wr (w.heap.size + 2) (.slice a2 xs.length cap2) (clAll xs k) ∧ Below w.heap.size w wr ∧ Box2 wr w.heap.size (.int .i64 n) (.slice a xs.length cap) ∧ Var2 wr (w.heap.size + 1) (.int .i64 0) (.slice none 0 0)) (fun i _ => xs.length - (intOf i).toNat)
    case atStart => exact ⟨0, Nat.zero_le _, rfl, ho2', bw2, A2, R2⟩
    case round =>
      obtain ⟨k, hk, rfl, hown, hb, hA, hR⟩ := hrel
      by_cases hlt : k < xs.length
      · go_wp2_with fail
        obtain ⟨wo, hwo⟩ : ∃ wo : World, wo = wr := ⟨_, rfl⟩
        go_loopw [21] (fun i wi => ∃ j : Nat, j ≤ xs.length ∧ i = .int .i64 j ∧ OwnI wi (w.heap.size + 2) (.slice a2 xs.length cap2) (clRow (clAll xs k) k j) ∧ Below w.heap.size w wi ∧ Box2 wi w.heap.size (.int .i64 n) (.slice a xs.length cap) ∧ Var2 wi (w.heap.size + 1) (.int .i64 0) (.slice none 0 0)) (fun i _ => xs.length - (intOf i).toNat)
        case atStart => exact ⟨0, Nat.zero_le _, rfl, hown, hb, hA, hR⟩
        case round =>
          obtain ⟨j, hj, rfl, hown, hb, hA, hR⟩ := hrel
          by_cases hjl : j < xs.length
          · obtain ⟨ys, hys⟩ : ∃ ys, ys = clRow (clAll xs k) k j := ⟨_, rfl⟩
            have hyl : ys.length = xs.length := by rw [hys, clRow_len, clAll_len]
            have hysm : Small ys := by rw [hys]; exact clRow_small (clAll_small hsm k hk) (by rw [clAll_len]; exact hlt) j (by rw [clAll_len]; exact hj)
            have hnext : clRow (clAll xs k) k (j + 1) = clStep ys k j := by rw [hys]; rfl
            rw [← hys] at hown
            obtain ⟨g, rfl, hg1, hg2⟩ := hown.head (by omega)
            have ⟨ci, fi⟩ := hown.at' hyl.symm (i := j) (by omega)
            have ⟨ck, fk⟩ := hown.at' hyl.symm (i := k) (by omega)
            have ⟨s0, s1⟩ := hysm j (by omega)
            have ⟨t0, t1⟩ := hysm k (by omega)
            have s2 : nth ys j ≤ 9223372036854775807 := by omega
            have hor := or_i (a := nth ys j) (b := nth ys k) s0 (by omega) t0 (by omega)
            have hput := hown.put hyl.symm j (bits .or .i64 (nth ys j) (nth ys k))
            rw [hor] at hput
            have HY := Lib.hid hyl
            have HN := Lib.hid hnext
            have HO := Lib.hid hor
            have HP := Lib.hid hput
            have j0 : (0 : Int) ≤ (j : Int) := by omega
            have j1 : (j : Int) < (xs.length : Int) := by omega
            have k0 : (0 : Int) ≤ (k : Int) := by omega
            have k1 : (k : Int) < (xs.length : Int) := by omega
            clear hys hyl hysm hnext hor hput
            cases hin : hasB (nth ys j) k
            · go_wp2_with fail
              refine (hasElement_any _ _ _ s0 s2 k0).mono ?_
              rintro e w' ⟨rfl, rfl⟩
              go_wp2_with fail
              go_roundw
              case rel => exact ⟨j + 1, by omega, by go_num, by rw [HN.out, clStep, hin]; exact hown, hb, hA, hR⟩
              case measure => simp [intOf]; omega
            · go_wp2_with fail
              refine (hasElement_any _ _ _ s0 s2 k0).mono ?_
              rintro e w' ⟨rfl, rfl⟩
              go_wp2_with fail
              go_region
              all_goals
                go_wp2_with fail
                go_roundw
                case rel =>
                  refine ⟨j + 1, by omega, by go_num, ?_, ?_, ?_, ?_⟩
                  · rw [HN.out, clStep, hin, if_pos rfl, ← HO.out]
                    have := HP.out.1
                    rw [← HO.out] at this
                    exact this
                  · exact (hb.drew).setCell (p := ⟨g, j, none⟩) (show w.heap.size ≤ g by omega) _
                  · exact hA.set (p := ⟨g, j, none⟩) _ (show w.heap.size ≠ g by omega)
                  · exact hR.other (p := ⟨g, j, none⟩) _ (show w.heap.size + 1 ≠ g by omega)
                case measure => simp [intOf]; omega
          · obtain rfl : j = xs.length := by omega
            go_wp2_with fail
            go_roundw
            case rel => exact ⟨k + 1, by omega, by go_num, by show OwnI wr _ _ (clRow (clAll xs k) k xs.length); exact hown, hb, hA, hR⟩
            case measure => simp [intOf]; omega
      · obtain rfl : k = xs.length := by omega
        have ⟨zA, cA, dA⟩ := hA
        have ⟨⟨zR, cR, dR⟩, fR, gR⟩ := hR
        go_wp2_with fail
        have R3 := hR.set (.int .i64 n) (.slice a2 xs.length cap2)
        refine bodyPost_ret (v := .tuple #[.agg #[.int .i64 n, .slice a2 xs.length cap2], .bool true]) (by have ⟨⟨_, q1, q2⟩, _, _⟩ := R3; simp [results, Try.results78, go_sem, q1, q2]) rfl ?_
        refine ⟨a2, cap2, ?_, ?_, ?_⟩
        · rw [H1.out, H2.out, clAll_len]
        · rw [H2.out, clAll_len]
          exact ((hown.setBelow (p := ⟨w.heap.size + 1, 0, none⟩) (show w.heap.size + 1 < w.heap.size + 2 by omega) _).setBelow (p := ⟨w.heap.size + 1, 1, none⟩) (show w.heap.size + 1 < w.heap.size + 2 by omega) _).mono (by omega)
        · exact (hb.setCell (p := ⟨w.heap.size + 1, 0, none⟩) (show w.heap.size ≤ w.heap.size + 1 by omega) _).setCell (p := ⟨w.heap.size + 1, 1, none⟩) (show w.heap.size ≤ w.heap.size + 1 by omega) _

theorem below_grown_none {w w' : World} {B : Nat} (h : w.grownBy w' none) (hB : B ≤ w.heap.size) : Below B w w' :=
  below_of_grown (v := .slice none 0 0) h (fun b e => by simp [Value.ownBlock] at e) hB

theorem belowSet_any (n : Int) (a : Option Addr) (xs : List Int) (cap : Nat) (i : Int) (w : World) (hx : Rd w a xs) (hr : RelP n xs) (hi : 0 ≤ i) :
    Calls Try.prog 104 #[.agg #[.int .i64 n, .slice a xs.length cap], .int .i64 i] w fun e w' => e = .returned (.int .i64 (belowTo xs i xs.length)) ∧ Below w.heap.size w w' := by
  have hx1 := hx.alloc (.cells #[.int .i64 n, .slice a xs.length cap] 46)
  have hn : xs.length ≤ 10 := by have := hr.len; have := hr.n1; omega
  go_enter Try.func104, Try.ntmps104
  go_wp2_with fail
  go_loop [5, 11] (fun s i' => ∃ k : Nat, k ≤ xs.length ∧ i' = .int .i64 k ∧ s = .int .i64 (belowTo xs i k)) (fun _ i => xs.length - (intOf i).toNat)
  case atStart => exact ⟨0, Nat.zero_le _, rfl, rfl⟩
  case round =>
    obtain ⟨k, hk, rfl, rfl⟩ := hrel
    by_cases hlt : k < xs.length
    · obtain ⟨b, off, rfl, hbl, hc⟩ := hx1.cell k hlt
      obtain ⟨b', off', e', hbl', hc'⟩ := hx.cell k hlt
      simp only [Option.some.injEq, Addr.mk.injEq, and_true] at e'
      obtain ⟨rfl, rfl⟩ := e'
      have hpk := hr.pos k hlt
      have hsk : nth xs k ≤ 9223372036854775807 := by have := hr.small k hlt; omega
      have hbs := belowTo_small xs i (k := k) (by omega)
      have hor := Lib.hid (or_bit (b := belowTo xs i k) (k := k) (by omega) (by omega))
      clear hbs
      cases hin : hasB (nth xs k) i
      · go_wp2_with (go_at_call 73; refine (hasElement_any _ _ _ hpk hsk hi).mono ?_; rintro e w' ⟨rfl, rfl⟩)
        go_round
        case rel => exact ⟨k + 1, by omega, by go_num, by simp [belowTo, hin]⟩
        case measure => simp [intOf]; omega
      · go_wp2_with (go_at_call 73; refine (hasElement_any _ _ _ hpk hsk hi).mono ?_; rintro e w' ⟨rfl, rfl⟩)
        go_round
        case rel => exact ⟨k + 1, by omega, by go_num, val_int (by rw [hor.out]; simp [belowTo, hin])⟩
        case measure => simp [intOf]; omega
    · obtain rfl : k = xs.length := by omega
      go_wp2_with fail
      go_ret
      exact ⟨rfl, (by repeat (first | exact Below.refl _ _ | assumption | refine Below.alloc ?_ (by first | exact Nat.le_refl _ | (simp only [World.size_alloc, World.size_setCell, World.size_drew]; omega) | omega) _ | refine Below.setCell ?_ (by first | exact Nat.le_refl _ | (simp only [World.size_alloc, World.size_setCell, World.size_drew]; omega) | omega) _ | refine Below.drew ?_))⟩

theorem belowSets_any (n : Int) (a : Option Addr) (xs : List Int) (cap : Nat) (w : World) (hx : Rd w a xs) (hr : RelP n xs) :
    Calls Try.prog 97 #[.agg #[.int .i64 n, .slice a xs.length cap]] w fun e w' => ∃ a' cap', e = .returned (.slice a' xs.length cap') ∧ OwnI w' w.heap.size (.slice a' xs.length cap') (belows xs xs.length) ∧ Below w.heap.size w w' := by
  obtain ⟨i0, hi, hz0, hz1, hz2⟩ := info_parts infoInt
  have hn0 := hr.n0
  have hn1 := hr.n1
  obtain rfl : n = (xs.length : Int) := hr.len.symm
  have hn : xs.length ≤ 10 := by omega
  go_enter Try.func97, Try.ntmps97
  go_wp2_with (at_make; refine wpList_make_full _ rfl (.tmp 6) (.tmp 6) 22 rfl (w.heap.size + 1) 3 i0 (.int .i64 0) 1 Try.underlying22 hi hz0 hz1 .i64 .i64 _ _ xs.length rfl rfl rfl rfl (by rw [hz2]; omega) (by unfold maxLen; omega) (by simp) ?_; intro w1 hown hgrow)
  have hb0 : Below w.heap.size w w1 := ((Below.refl _ _).alloc (Nat.le_refl _) _).grown hgrow (by simp) (fun k h => by cases h)
  have hown0 := made_ints (fun i => ((belowTo xs i xs.length : Nat) : Int)) hown
  have B1 : Box2 w1 w.heap.size (.int .i64 (xs.length : Int)) (.slice a xs.length cap) := (Box2.new w _ _ _).kept hgrow (by simp)
  have hx1 : Rd w1 a xs := hx.below hb0
  clear hown hgrow
  simp only [World.size_alloc] at *
  have hz : w.heap.size + 1 < w1.heap.size := by
    have := (World.ownsRow.lt hown0 (w.heap.size + 1) rfl).2
    omega
  go_wp2_with fail
  go_loopw [10] (fun i wr => ∃ k : Nat, k ≤ xs.length ∧ i = .int .i64 k ∧ wr.ownsRow (w.heap.size + 1) 3 1 (.slice (some ⟨w.heap.size + 1, 0, none⟩) xs.length xs.length) xs.length ((fmap (fun i => ((belowTo xs i xs.length : Nat) : Int)) k ++ List.replicate (xs.length - k) (0:Int)).map (Value.int .i64)) ∧ Below w.heap.size w wr ∧ Box2 wr w.heap.size (.int .i64 (xs.length : Int)) (.slice a xs.length cap)) (fun i _ => xs.length - (intOf i).toNat)
  case atStart => exact ⟨0, Nat.zero_le _, rfl, hown0, hb0, B1⟩
  case round =>
    obtain ⟨k, hk, rfl, hown, hb, hB⟩ := hrel
    have ⟨zr, cr, dr⟩ := hB
    by_cases hlt : k < xs.length
    · go_wp2_with fail
      refine (belowSet_any _ _ _ _ _ _ (hx.below hb) hr (by omega)).mono ?_
      rintro e w2 ⟨rfl, hb2⟩
      have hown2 : w2.ownsRow (w.heap.size + 1) 3 1 (.slice (some ⟨w.heap.size + 1, 0, none⟩) xs.length xs.length) xs.length _ := World.ownsRow.kept hown (below_grown hb2 (Nat.le_refl _) none) (.inr (by simp [Value.ownBlock]))
      have hst := World.ownsRow.stored hown2 k (.int .i64 ((belowTo xs k xs.length : Nat) : Int))
      rw [fill_step (fun i => ((belowTo xs i xs.length : Nat) : Int)) xs.length k hlt] at hst
      have hcc := World.ownsRow.cellAt hown2 k (by omega)
      have hfr := World.ownsRow.frozenAt hown2 k
      have hcc' : ∃ u, w2.cell? ⟨w.heap.size + 1, k, none⟩ = some u := by
        rw [hcc]
        exact ⟨_, List.getElem?_eq_getElem (by simp [fmap_len]; omega)⟩
      obtain ⟨u, hu⟩ := hcc'
      have hB2 := hB.below hb2
      have hB3 := hB2.kept hst.2 (by simp)
      have hbw := hb.trans (hb2.mono hb.size)
      have Hst := Lib.hid hst
      clear hst hcc hown hown2 hb2
      go_wp2_with fail
      go_roundw
      case rel => exact ⟨k + 1, by omega, by go_num, Hst.out.1, hbw.setCell (by simp) _, hB3⟩
      case measure => simp [intOf]; omega
    · obtain rfl : k = xs.length := by omega
      go_wp2_with fail
      go_ret
      rw [fill_end] at hown
      refine ⟨_, _, rfl, OwnI.mono (B := w.heap.size + 1) ?_ (by omega), hb⟩
      show World.ownsRow _ _ _ _ _ _ _
      rw [belows_len]
      exact hown

theorem aboveAny_any (n : Int) (a : Option Addr) (xs : List Int) (cap : Nat) (s : Int) (w : World) (hx : Rd w a xs) (hr : RelP n xs) (h0 : 0 ≤ s) (h1 : s ≤ 9223372036854775807) :
    Calls Try.prog 92 #[.agg #[.int .i64 n, .slice a xs.length cap], .int .i64 s] w fun e w' => e = .returned (.int .i64 (aboveTo xs s xs.length)) ∧ Below w.heap.size w w' := by
  have hx1 := hx.alloc (.cells #[.int .i64 n, .slice a xs.length cap] 46)
  obtain rfl : n = (xs.length : Int) := hr.len.symm
  have hn : xs.length ≤ 10 := by have := hr.n1; omega
  go_enter Try.func92, Try.ntmps92
  go_wp2_with fail
  go_loop [5, 9] (fun s' i' => ∃ k : Nat, k ≤ xs.length ∧ i' = .int .i64 k ∧ s' = .int .i64 (aboveTo xs s k)) (fun _ i => xs.length - (intOf i).toNat)
  case atStart => exact ⟨0, Nat.zero_le _, rfl, rfl⟩
  case round =>
    obtain ⟨k, hk, rfl, rfl⟩ := hrel
    by_cases hlt : k < xs.length
    · obtain ⟨b, off, rfl, hbl, hc⟩ := hx1.cell k hlt
      obtain ⟨b', off', e', hbl', hc'⟩ := hx.cell k hlt
      simp only [Option.some.injEq, Addr.mk.injEq, and_true] at e'
      obtain ⟨rfl, rfl⟩ := e'
      have hpk := hr.pos k hlt
      have hsk := hr.small k hlt
      have hab := aboveTo_lt hr s k hk
      have hor := Lib.hid (or_i (a := (aboveTo xs s k : Nat)) (b := nth xs k) (by omega) (by omega) hpk (by omega))
      clear hab
      cases hin : hasB s k
      · go_wp2_with (go_at_call 73; refine (hasElement_any _ _ _ h0 h1 (by omega)).mono ?_; rintro e w' ⟨rfl, rfl⟩)
        go_round
        case rel => exact ⟨k + 1, by omega, by go_num, by simp [aboveTo, hin]⟩
        case measure => simp [intOf]; omega
      · go_wp2_with (go_at_call 73; refine (hasElement_any _ _ _ h0 h1 (by omega)).mono ?_; rintro e w' ⟨rfl, rfl⟩)
        go_round
        case rel => exact ⟨k + 1, by omega, by go_num, val_int (by rw [hor.out]; simp [aboveTo, hin])⟩
        case measure => simp [intOf]; omega
    · obtain rfl : k = xs.length := by omega
      go_wp2_with fail
      go_ret
      exact ⟨rfl, (by repeat (first | exact Below.refl _ _ | assumption | refine Below.alloc ?_ (by first | exact Nat.le_refl _ | (simp only [World.size_alloc, World.size_setCell, World.size_drew]; omega) | omega) _ | refine Below.setCell ?_ (by first | exact Nat.le_refl _ | (simp only [World.size_alloc, World.size_setCell, World.size_drew]; omega) | omega) _ | refine Below.drew ?_))⟩

theorem iIsOrder_any (n : Int) (a : Option Addr) (xs : List Int) (cap : Nat) (w : World) (hn : -9223372036854775808 ≤ n ∧ n ≤ 9223372036854775807) (hx : Rd w a xs) :
    Calls Try.prog 70 #[.agg #[.int .i64 n, .slice a xs.length cap]] w fun e w' => e = .returned (.bool (ordB n xs)) ∧ Below w.heap.size w w' := by
  have hx1 := hx.alloc (.cells #[.int .i64 n, .slice a xs.length cap] 46)
  have hlen := hx.len
  cases hr : relB n xs
  · have HR : Hid (ordB n xs = false) := by simp [Hid, ordB, hr]
    go_enter Try.func70, Try.ntmps70
    go_wp2_with fail
    refine (iIsRelation_any _ _ _ _ _ hn hx1).mono ?_
    rintro e w1 ⟨rfl, hb1⟩
    go_wp2_with fail
    go_ret
    exact ⟨ret_bool HR.out.symm, Below.trans (by repeat (first | exact Below.refl _ _ | assumption | refine Below.alloc ?_ (by first | exact Nat.le_refl _ | (simp only [World.size_alloc, World.size_setCell, World.size_drew]; omega) | omega) _ | refine Below.setCell ?_ (by first | exact Nat.le_refl _ | (simp only [World.size_alloc, World.size_setCell, World.size_drew]; omega) | omega) _ | refine Below.drew ?_)) (hb1.mono (by first | (simp only [World.size_alloc, World.size_setCell, World.size_drew]; omega) | omega))⟩
  · have hp := relB_p hr
    go_enter Try.func70, Try.ntmps70
    go_wp2_with fail
    refine (iIsRelation_any _ _ _ _ _ hn hx1).mono ?_
    rintro e w1 ⟨rfl, hb1⟩
    have B1 := (Box2.new w _ _ _).below hb1
    have ⟨z1, c1, d1⟩ := B1
    have bw1 : Below w.heap.size w w1 := Below.trans (by repeat (first | exact Below.refl _ _ | assumption | refine Below.alloc ?_ (by first | exact Nat.le_refl _ | (simp only [World.size_alloc, World.size_setCell, World.size_drew]; omega) | omega) _ | refine Below.setCell ?_ (by first | exact Nat.le_refl _ | (simp only [World.size_alloc, World.size_setCell, World.size_drew]; omega) | omega) _ | refine Below.drew ?_)) (hb1.mono (by first | (simp only [World.size_alloc, World.size_setCell, World.size_drew]; omega) | omega))
    have HR := Lib.hid hr
    clear hb1
    go_wp2_with fail
    clear hr
    go_loopw [11] (fun i wr => ∃ k : Nat, k ≤ xs.length ∧ i = .int .i64 k ∧ (∀ j, j < k → okAtB xs j = true) ∧ Below w1.heap.size w1 wr) (fun i _ => xs.length - (intOf i).toNat)
    case atStart => exact ⟨0, Nat.zero_le _, rfl, fun j hj => by omega, Below.refl _ _⟩
    case round =>
      obtain ⟨k, hk, rfl, hall, hb⟩ := hrel
      have ⟨zr, cr, dr⟩ := B1.below hb
      have bwr := bw1.trans (hb.mono bw1.size)
      have HA := Lib.hid hall
      clear hall c1 d1
      by_cases hlt : k < xs.length
      · obtain ⟨b, off, rfl, hbl, hc⟩ := (hx.below bwr).cell k hlt
        have hpk := hp.pos k hlt
        have hsk := hp.small k hlt
        have hsk' : nth xs k ≤ 9223372036854775807 := by omega
        cases hin : hasB (nth xs k) k
        · have hab := aboveTo_lt hp (nth xs k) xs.length (Nat.le_refl _)
          have hsub := sub_i (a := (aboveTo xs (nth xs k) xs.length : Nat)) (b := nth xs k) (by omega) (by omega) hpk (by omega)
          have hok := okAtB_above hin
          rw [Int.toNat_natCast] at hsub
          cases hok2 : okAtB xs k
          · rw [hok2] at hok
            have hne : (bits BinOp.andNot IntKind.i64 ((aboveTo xs (nth xs k) xs.length : Nat) : Int) (nth xs k) != 0) = true := by
              rw [hsub]
              simpa using hok.symm
            have HN := Lib.hid (ordB_no (n := n) hlt hok2)
            clear hok2 hok hsub hab
            go_wp2_with fail
            refine (hasElement_any _ _ _ hpk hsk' (by omega)).mono ?_
            rintro e w' ⟨rfl, rfl⟩
            go_wp2_with fail
            refine (aboveAny_any _ _ _ _ _ _ (hx.below bwr) hp hpk hsk').mono ?_
            rintro e w2 ⟨rfl, hb2⟩
            go_wp2_with fail
            go_ret
            exact ⟨ret_bool HN.out.symm, bwr.trans (hb2.mono bwr.size)⟩
          · rw [hok2] at hok
            have hne : (bits BinOp.andNot IntKind.i64 ((aboveTo xs (nth xs k) xs.length : Nat) : Int) (nth xs k) != 0) = false := by
              rw [hsub]
              simpa using hok.symm
            have HN := Lib.hid hok2
            clear hok2 hok hsub hab
            go_wp2_with fail
            refine (hasElement_any _ _ _ hpk hsk' (by omega)).mono ?_
            rintro e w' ⟨rfl, rfl⟩
            go_wp2_with fail
            refine (aboveAny_any _ _ _ _ _ _ (hx.below bwr) hp hpk hsk').mono ?_
            rintro e w2 ⟨rfl, hb2⟩
            go_wp2_with fail
            go_roundw
            case rel =>
              refine ⟨k + 1, by omega, by go_num, fun j hj => ?_, hb.trans (hb2.mono hb.size)⟩
              by_cases e : j = k
              · rw [e]; exact HN.out
              · exact HA.out j (by omega)
            case measure => simp [intOf]; omega
        · have HN := Lib.hid (ordB_no (n := n) hlt (okAtB_has hin))
          go_wp2_with fail
          refine (hasElement_any _ _ _ hpk hsk' (by omega)).mono ?_
          rintro e w' ⟨rfl, rfl⟩
          go_wp2_with fail
          go_ret
          exact ⟨ret_bool HN.out.symm, bwr⟩
      · obtain rfl : k = xs.length := by omega
        go_wp2_with fail
        go_ret
        exact ⟨ret_bool (ordB_iff.2 ⟨HR.out, HA.out⟩).symm, bwr⟩

/-- the marks k, k + 1, .. -/
def marks (k : Int) (n : Nat) : List Int := (List.range n).map (fun (j : Nat) => k + (j : Int))
theorem marks_len (k : Int) (n : Nat) : (marks k n).length = n := by simp [marks]
theorem marks_nth {k : Int} {n j : Nat} (h : j < n) : nth (marks k n) j = k + j := by
  simp [nth, marks, h]
theorem mark_step (k : Int) (xs : List Int) (j : Nat) (h : j < xs.length) :
    ((marks k j ++ xs.drop j).map (Value.int .i64)).set j (.int .i64 (k + j)) = (marks k (j+1) ++ xs.drop (j+1)).map (Value.int .i64) := by
  apply List.ext_getElem?
  intro i
  rw [List.getElem?_set]
  by_cases hj : j = i
  · subst hj
    rw [if_pos rfl, if_pos (by simp [marks_len]; omega), List.getElem?_map, List.getElem?_append_left (by rw [marks_len]; omega)]
    simp [marks]
  · simp only [hj, if_false, List.getElem?_map, List.getElem?_append, marks_len, List.getElem?_drop]
    by_cases h1 : i < j
    · have h2 : i < j + 1 := by omega
      simp [h1, h2, marks]
    · have h2 : ¬ i < j + 1 := by omega
      have h3 : j + (i - j) = j + 1 + (i - (j + 1)) := by omega
      simp [h1, h2, h3]
theorem own_ne {v u : Value} (h : ∀ c, v.ownBlock = some c → u.ownBlock ≠ some c) : v.ownBlock = none ∨ v.ownBlock ≠ u.ownBlock := by
  cases hv : v.ownBlock with
  | none => exact .inl rfl
  | some c => exact .inr (fun e => h c hv e.symm)

theorem iFirst_any (n : Int) (a : Option Addr) (xs : List Int) (cap : Nat) (w : World) (hn : -9223372036854775808 ≤ n ∧ n ≤ 9223372036854775807) (hx : Rd w a xs) :
    Calls Try.prog 79 #[.agg #[.int .i64 n, .slice a xs.length cap]] w fun e w' => ∃ a' cap', e = .returned (.tuple #[.slice a' (fstL n xs).length cap', .bool (ordB n xs)]) ∧ OwnI w' w.heap.size (.slice a' (fstL n xs).length cap') (fstL n xs) ∧ Below w.heap.size w w' := by
  have hx1 := hx.alloc (.cells #[.int .i64 n, .slice a xs.length cap] 46)
  obtain ⟨i0, hi, hz0, hz1, hz2⟩ := info_parts infoInt
  cases hr : ordB n xs
  · have H2 : Hid (fstL n xs = []) := by simp [Hid, fstL, hr]
    go_enter Try.func79, Try.ntmps79
    go_wp2_with fail
    refine (iIsOrder_any _ _ _ _ _ hn hx1).mono ?_
    rw [hr]
    rintro e w1 ⟨rfl, hb1⟩
    have bw1 : Below w.heap.size w w1 := Below.trans (by repeat (first | exact Below.refl _ _ | assumption | refine Below.alloc ?_ (by first | exact Nat.le_refl _ | (simp only [World.size_alloc, World.size_setCell, World.size_drew]; omega) | omega) _ | refine Below.setCell ?_ (by first | exact Nat.le_refl _ | (simp only [World.size_alloc, World.size_setCell, World.size_drew]; omega) | omega) _ | refine Below.drew ?_)) (hb1.mono (by first | (simp only [World.size_alloc, World.size_setCell, World.size_drew]; omega) | omega))
    go_wp2_with fail
    refine bodyPost_ret (v := .tuple #[.slice none 0 0, .bool false]) (by simp [results, Try.results79, go_sem]) rfl ?_
    exact ⟨none, 0, by rw [H2.out]; rfl, by rw [H2.out]; exact OwnI.nil _ _, bw1⟩
  · have hp := ord_rel hr
    have hl10 : xs.length ≤ 10 := by have := hp.len; have := hp.n1; omega
    have hn0 := hp.n0
    have H2 : Hid (fstL n xs = firsts xs xs.length) := by simp [Hid, fstL, hr]
    have HR := Lib.hid hr
    obtain rfl : n = (xs.length : Int) := hp.len.symm
    clear hr
    go_enter Try.func79, Try.ntmps79
    go_wp2_with fail
    refine (iIsOrder_any _ _ _ _ _ hn hx1).mono ?_
    rw [HR.out]
    rintro e w1 ⟨rfl, hb1⟩
    have A1 : Box2 w1 w.heap.size (.int .i64 (xs.length : Int)) (.slice a xs.length cap) := (Box2.new w _ _ _).below hb1
    have bw1 : Below w.heap.size w w1 := Below.trans (by repeat (first | exact Below.refl _ _ | assumption | refine Below.alloc ?_ (by first | exact Nat.le_refl _ | (simp only [World.size_alloc, World.size_setCell, World.size_drew]; omega) | omega) _ | refine Below.setCell ?_ (by first | exact Nat.le_refl _ | (simp only [World.size_alloc, World.size_setCell, World.size_drew]; omega) | omega) _ | refine Below.drew ?_)) (hb1.mono (by first | (simp only [World.size_alloc, World.size_setCell, World.size_drew]; omega) | omega))
    have ⟨zA, cA, dA⟩ := A1
    clear hb1
    go_wp2_with fail
    refine (belowSets_any _ _ _ _ _ (hx.below bw1) hp).mono ?_
    rintro e w2 ⟨a2, cap2, rfl, ho2, hb2⟩
    have A2 := A1.below hb2
    have bw2 := bw1.trans (hb2.mono bw1.size)
    have UB := ho2.cut (Nat.le_refl _)
    clear zA cA dA A1 hb2
    have ⟨zA, cA, dA⟩ := A2
    go_wp2_with (at_make; refine wpList_make_own _ rfl _ _ 22 rfl w2.heap.size 3 i0 (.int .i64 0) 1 Try.underlying22 hi hz0 hz1 .i64 .i64 _ xs.length rfl rfl rfl (by rw [hz2]; omega) (by unfold maxLen; omega) (Nat.le_refl _) ?_; intro w3 hown hgrow; have A3 := A2.kept hgrow (by simp); have ⟨zA3, cA3, dA3⟩ := A3; have ho3 := ho2.kept hgrow (Classical.em _))
    have bw3 : Below w.heap.size w w3 := bw2.trans (below_grown_none hgrow bw2.size)
    have hU2 : w2.heap.size ≤ w3.heap.size := hgrow.size
    clear cA dA hgrow
    have HB : OwnI w3 w1.heap.size (.slice a2 xs.length cap2) (belows xs xs.length) := ho3
    clear ho3 ho2
    have hown3 : OwnI w3 w2.heap.size (.slice (some ⟨w2.heap.size, 0, none⟩) 0 xs.length) (firsts xs 0) := hown
    clear hown
    go_wp2_with fail
    go_loopw [5, 6, 18] (fun l p i wr => ∃ (k : Nat) (v : Value), k ≤ xs.length ∧ i = .int .i64 k ∧ p = .int .i64 (fset xs k) ∧ l = v ∧ OwnI wr w2.heap.size v (firsts xs k) ∧ OwnI wr w1.heap.size (.slice a2 xs.length cap2) (belows xs xs.length) ∧ Below w.heap.size w wr ∧ w2.heap.size ≤ wr.heap.size ∧ Box2 wr w.heap.size (.int .i64 (xs.length : Int)) (.slice a xs.length cap)) (fun _ _ i _ => xs.length - (intOf i).toNat)
    case atStart => exact ⟨0, _, Nat.zero_le _, rfl, rfl, rfl, hown3, HB, bw3, hU2, A3⟩
    case round =>
      obtain ⟨k, v, hk, rfl, rfl, rfl, hown, hbel, hb, hsz, hA⟩ := hrel
      have ⟨zr, cr, dr⟩ := hA
      obtain ⟨av, capv, rfl⟩ := hown.form
      simp only [firsts_len] at hown ⊢
      by_cases hlt : k < xs.length
      · have ⟨hc, hs⟩ := fset_card HR.out k (by omega)
        have ⟨hx0, hx1, hx2⟩ := nxt_ok (first_ex HR.out (S := fset xs k) (by omega))
        have hs10 : fset xs k < 2 ^ 10 := Nat.lt_of_lt_of_le hs (Nat.pow_le_pow_right (by omega) hl10)
        have s0 : (0 : Int) ≤ ((fset xs k : Nat) : Int) := by omega
        have s1 : ((fset xs k : Nat) : Int) ≤ 9223372036854775807 := by omega
        have HX1 := Lib.hid hx1
        have HX2 := Lib.hid hx2
        have HS10 := Lib.hid hs10
        clear hc hs hx1 hx2 hs10
        go_wp2_with fail
        go_loop [7] (fun m' => ∃ m : Nat, m ≤ nxt xs (fset xs k) ∧ m' = .int .i64 m) (fun m' => nxt xs (fset xs k) - (intOf m').toNat)
        case atStart => exact ⟨0, Nat.zero_le _, rfl⟩
        case round =>
          obtain ⟨m, hm, rfl⟩ := hrel
          have hml : m < xs.length := by omega
          obtain ⟨b, off, rfl, hbl, hc⟩ := hbel.rd.cell m (by rw [belows_len]; exact hml)
          have hbm : nth (belows xs xs.length) m = ((belowTo xs (m : Int) xs.length : Nat) : Int) := fmap_nth _ hml
          rw [hbm] at hc
          have hsb := sub_nat (belowTo xs (m : Int) xs.length) (fset xs k) (by have := belowTo_small xs (m : Int) hl10; omega) (by have := HS10.out; omega)
          have m0 : (0 : Int) ≤ (m : Int) := by omega
          have m1 : (m : Int) < (xs.length : Int) := by omega
          have m2 : (m : Int) < 10 := by omega
          cases hin : hasB ((fset xs k : Nat) : Int) (m : Int)
          · by_cases hz : sub (belowTo xs (m : Int) xs.length) (fset xs k) = 0
            · have hd : (bits .andNot .i64 ((belowTo xs (m : Int) xs.length : Nat) : Int) ((fset xs k : Nat) : Int) != 0) = false := by rw [hsb, hz]; rfl
              have hmx : nxt xs (fset xs k) = m := nxt_eq hml (firstOk_iff.2 ⟨hin, hz⟩) (fun j hj => HX2.out j (by omega))
              have HMX := Lib.hid hmx
              have hor := or_bit (b := fset xs k) (k := m) (by have := HS10.out; omega) (by omega)
              have HO := Lib.hid hor
              clear hz hsb hmx hor hbm
              go_wp2_with fail
              refine (hasElement_any _ _ _ s0 s1 m0).mono ?_
              rintro e w' ⟨rfl, rfl⟩
              go_wp2_with (at_builtin; refine wpList_append_own _ rfl _ _ 22 rfl w2.heap.size 3 i0 (.int .i64 0) 1 8 Try.underlying22 hi hz0 hz1 hz2 rfl (by decide) (.slice av k capv) k ((firsts xs k).map (Value.int .i64)) rfl (by have h := hown.alloc (.cells #[.int .i64 (m : Int)] 3); unfold OwnI at h; rw [firsts_len] at h; exact h) ⟨wr.heap.size, 0, none⟩ 1 1 [.int .i64 (m : Int)] rfl rfl (cell_one_new _ _ _) (by intro u hu; simp at hu; subst hu; rfl) (by unfold maxLen; omega) (by omega) (by simp; omega) ?_)
              intro v' w5 hown5 hgrow _
              have hg2 := grown_alloc_set hgrow
              have o5 : OwnI w5 w2.heap.size v' (firsts xs (k + 1)) := by
                unfold OwnI
                rw [firsts_len, show firsts xs (k + 1) = firsts xs k ++ [((m : Nat) : Int)] from (by show firsts xs k ++ [((nxt xs (fset xs k) : Nat) : Int)] = _; rw [HMX.out]), List.map_append]
                exact hown5
              have hU := hown.lt
              have A5 := hA.kept hg2 (ne_own (fun c e => by have := hU c e; have := zA; omega))
              have B5 := hbel.kept hg2 (own_ne (fun c e e2 => by have h1 := UB c e; have h2 := hU c e2; omega))
              have bw5 := hb.trans (below_of_grown hg2 (fun c e => by have := hU c e; have := bw2.size; omega) hb.size)
              have hz5 : w2.heap.size ≤ w5.heap.size := Nat.le_trans hsz hg2.size
              clear hown5 hgrow hU
              go_wp2_with fail
              go_roundw
              case rel => exact ⟨k + 1, _, by omega, by go_num, val_int (by rw [HO.out, fset_next, HMX.out]), rfl, o5, B5, bw5, hz5, A5⟩
              case measure => simp [intOf]; omega
            · have hd : (bits .andNot .i64 ((belowTo xs (m : Int) xs.length : Nat) : Int) ((fset xs k : Nat) : Int) != 0) = true := by rw [hsb, bne_iff_ne]; omega
              have hmx : m < nxt xs (fset xs k) := by
                rcases Nat.lt_or_ge m (nxt xs (fset xs k)) with h | h
                · exact h
                · have e : m = nxt xs (fset xs k) := by omega
                  exact absurd (firstOk_iff.1 (e ▸ HX1.out)).2 hz
              clear hz hsb hbm
              go_wp2_with fail
              refine (hasElement_any _ _ _ s0 s1 m0).mono ?_
              rintro e w' ⟨rfl, rfl⟩
              go_wp2_with fail
              go_round
              case rel => exact ⟨m + 1, by omega, by go_num⟩
              case measure => simp [intOf]; omega
          · have hmx : m < nxt xs (fset xs k) := by
              rcases Nat.lt_or_ge m (nxt xs (fset xs k)) with h | h
              · exact h
              · have e : m = nxt xs (fset xs k) := by omega
                have h2 := (firstOk_iff.1 (e ▸ HX1.out)).1
                have h3 : (fset xs k).testBit m = true := hin
                rw [h2] at h3
                cases h3
            clear hsb hbm
            go_wp2_with fail
            refine (hasElement_any _ _ _ s0 s1 m0).mono ?_
            rintro e w' ⟨rfl, rfl⟩
            go_wp2_with fail
            go_round
            case rel => exact ⟨m + 1, by omega, by go_num⟩
            case measure => simp [intOf]; omega
      · obtain rfl : k = xs.length := by omega
        go_wp2_with fail
        refine bodyPost_ret (v := .tuple #[.slice av xs.length capv, .bool true]) (by simp [results, Try.results79, go_sem]) rfl ?_
        exact ⟨av, capv, by rw [H2.out, firsts_len], by rw [H2.out, firsts_len]; exact hown.mono bw2.size, hb⟩

/-- a row of a list of rows -/
def rowL (xss : List (List Int)) (k : Nat) : List Int := xss.getD k []
/-- how many numbers the first k rows have -/
def totS (xss : List (List Int)) : Nat → Nat
  | 0 => 0
  | k+1 => totS xss k + (rowL xss k).length
theorem totS_mono {xss : List (List Int)} {j : Nat} : ∀ {k : Nat}, j ≤ k → totS xss j ≤ totS xss k
  | 0, h => by obtain rfl : j = 0 := by omega
               exact Nat.le_refl _
  | k+1, h => by
    by_cases e : j = k + 1
    · rw [e]; exact Nat.le_refl _
    · have := totS_mono (xss := xss) (j := j) (k := k) (by omega)
      simp only [totS]; omega
theorem row_tot {xss : List (List Int)} {k n : Nat} (h : k < n) : (rowL xss k).length ≤ totS xss n := by
  have := totS_mono (xss := xss) (j := k + 1) (k := n) (by omega)
  simp only [totS] at this
  omega
/-- the slice of slices at an address reads as a list of rows -/
structure RdS (w : World) (a : Option Addr) (xss : List (List Int)) : Prop where
  len : xss.length ≤ 9223372036854775807
  row : ∀ k, k < xss.length → ∃ b off a' cap', a = some ⟨b, off, none⟩ ∧ b < w.heap.size ∧ w.cell? ⟨b, off + k, none⟩ = some (.slice a' (rowL xss k).length cap') ∧ Rd w a' (rowL xss k)
theorem RdS.below {w w' : World} {a : Option Addr} {xss : List (List Int)} (h : RdS w a xss) (hb : Below w.heap.size w w') : RdS w' a xss :=
  ⟨h.len, fun k hk => by
    obtain ⟨b, off, a', cap', e, hl, hc, hr⟩ := h.row k hk
    exact ⟨b, off, a', cap', e, Nat.lt_of_lt_of_le hl hb.size, (hb.cell (World.block_lt_of_cell? _ _ hc)).trans hc, hr.below hb⟩⟩
theorem ownsRow_bel {w w' : World} {B B' : Nat} {e : TypeId} {size : Nat} {v : Value} {n : Nat} {xs : List Value} (h : w.ownsRow B e size v n xs) (hb : Below B' w w') (hB : w.heap.size ≤ B') : w'.ownsRow B e size v n xs := by
  refine ⟨h.1, ?_⟩
  rcases h.2 with hn | ⟨g, cap, cur, e, hb', hg, rest⟩
  · exact .inl hn
  · refine .inr ⟨g, cap, cur, e, hb', ?_, rest⟩
    rw [hb.block g (by have := (Array.getElem?_eq_some_iff.1 hg).1; omega)]
    exact hg
def valAt (vl : List Value) (k : Nat) : Value := vl.getD k (.slice none 0 0)
/-- a slice of slices that owns its rows: the outer block is g -/
structure OwnS (w : World) (B g : Nat) (vl : List Value) (xss : List (List Int)) : Prop where
  lo : B ≤ g
  hi : g < w.heap.size
  max : xss.length ≤ 9223372036854775807
  cell : ∀ k, k < xss.length → w.cell? ⟨g, k, none⟩ = some (valAt vl k)
  row : ∀ k, k < xss.length → OwnI w (g + 1) (valAt vl k) (rowL xss k)
  apart : ∀ j k, j < k → k < xss.length → ∀ c d, (valAt vl j).ownBlock = some c → (valAt vl k).ownBlock = some d → c < d
theorem OwnS.rd {w : World} {B g : Nat} {vl : List Value} {xss : List (List Int)} (h : OwnS w B g vl xss) : RdS w (some ⟨g, 0, none⟩) xss :=
  ⟨h.max, fun k hk => by
    have h1 := h.row k hk
    have h2 := h.cell k hk
    obtain ⟨a', cap', e⟩ := h1.form
    rw [e] at h1 h2
    exact ⟨g, 0, a', cap', rfl, h.hi, by rw [Nat.zero_add]; exact h2, h1.rd⟩⟩
theorem OwnS.below {w w' : World} {B B' g : Nat} {vl : List Value} {xss : List (List Int)} (h : OwnS w B g vl xss) (hb : Below B' w w') (hB : w.heap.size ≤ B') : OwnS w' B g vl xss :=
  ⟨h.lo, Nat.lt_of_lt_of_le h.hi hb.size, h.max, fun k hk => (hb.cell (p := ⟨g, k, none⟩) (Nat.lt_of_lt_of_le h.hi hB)).trans (h.cell k hk), fun k hk => (h.row k hk).below hb hB, h.apart⟩
theorem OwnS.cut {w : World} {B g : Nat} {vl : List Value} {xss : List (List Int)} (h : OwnS w B g vl xss) {U : Nat} (hU : w.heap.size ≤ U) : B ≤ g ∧ ∀ k, k < xss.length → ∀ c, (valAt vl k).ownBlock = some c → g < c ∧ c < U :=
  ⟨h.lo, fun k hk c e => by have := (h.row k hk).lt c e; omega⟩
/-- only blocks of a stretch are written -/
structure TouchS (lo hi : Nat) (w w' : World) : Prop where
  os : w'.os = w.os
  tape : w'.tape = w.tape
  output : w'.output = w.output
  size : w.heap.size ≤ w'.heap.size
  block : ∀ k, k < w.heap.size → k < lo ∨ hi ≤ k → w'.heap[k]? = w.heap[k]?
theorem TouchS.refl (lo hi : Nat) (w : World) : TouchS lo hi w w := ⟨rfl, rfl, rfl, Nat.le_refl _, fun _ _ _ => rfl⟩
theorem TouchS.step {lo hi : Nat} {w w1 w2 : World} {r : Option Nat} (h : TouchS lo hi w w1) (hg : w1.grownBy w2 r) (hr : ∀ c, r = some c → lo ≤ c ∧ c < hi) : TouchS lo hi w w2 :=
  ⟨hg.os.trans h.os, hg.tape.trans h.tape, hg.output.trans h.output, Nat.le_trans h.size hg.size, fun k hk hn => (hg.block k (by have := h.size; omega) (fun e => by have := hr k e.symm; omega)).trans (h.block k hk hn)⟩
theorem TouchS.below {lo hi B : Nat} {w w' : World} (h : TouchS lo hi w w') (hB : B ≤ lo) (hs : B ≤ w.heap.size) : Below B w w' :=
  ⟨h.os, h.tape, h.output, h.size, fun k hk => h.block k (by omega) (by omega)⟩
theorem TouchS.other {lo hi : Nat} {w w' : World} (h : TouchS lo hi w w') (b : Nat) (hb : b < lo ∨ hi ≤ b) (hs : b < w.heap.size) : ∀ r, w'.heap[b]? = w.heap[b]? ∧ (r = some b → True) := fun _ => ⟨h.block b hs hb, fun _ => trivial⟩
theorem Box2.touch {lo hi : Nat} {w w' : World} {b : Nat} {u v : Value} (h : Box2 w b u v) (ht : TouchS lo hi w w') (hb : b < lo ∨ hi ≤ b) : Box2 w' b u v :=
  ⟨Nat.lt_of_lt_of_le h.1 ht.size, (World.cell?_of_block (w := w) (a := ⟨b, 0, none⟩) (ht.block b h.1 hb)).trans h.2.1, (World.cell?_of_block (w := w) (a := ⟨b, 1, none⟩) (ht.block b h.1 hb)).trans h.2.2⟩
theorem OwnI.touch {lo hi : Nat} {w w' : World} {B : Nat} {v : Value} {xs : List Int} (h : OwnI w B v xs) (ht : TouchS lo hi w w') (hb : ∀ c, v.ownBlock = some c → c < lo ∨ hi ≤ c) : OwnI w' B v xs := by
  refine ⟨h.1, ?_⟩
  rcases h.2 with hn | ⟨g, cap, cur, e, hb', hg, rest⟩
  · exact .inl hn
  · refine .inr ⟨g, cap, cur, e, hb', ?_, rest⟩
    rw [ht.block g (Array.getElem?_eq_some_iff.1 hg).1 (hb g (by rw [e]; rfl))]
    exact hg

/-- a block that begins with this cell -/
def Box1 (w : World) (b : Nat) (u : Value) : Prop := b < w.heap.size ∧ w.cell? ⟨b, 0, none⟩ = some u
theorem Box1.below {w w' : World} {b : Nat} {u : Value} (h : Box1 w b u) (hb : Below w.heap.size w w') : Box1 w' b u :=
  ⟨Nat.lt_of_lt_of_le h.1 hb.size, (hb.cell (p := ⟨b, 0, none⟩) h.1).trans h.2⟩
theorem Box1.new (w : World) (u : Value) (t : TypeId) : Box1 (w.alloc (.cells #[u] t)) w.heap.size u := ⟨by simp, by simp⟩
theorem Box1.kept {w w' : World} {b : Nat} {u : Value} {row : Option Nat} (h : Box1 w b u) (hg : w.grownBy w' row) (hne : some b ≠ row) : Box1 w' b u :=
  ⟨Nat.lt_of_lt_of_le h.1 hg.size, hg.cell h.2 hne⟩
theorem Box1.touch {lo hi : Nat} {w w' : World} {b : Nat} {u : Value} (h : Box1 w b u) (ht : TouchS lo hi w w') (hb : b < lo ∨ hi ≤ b) : Box1 w' b u :=
  ⟨Nat.lt_of_lt_of_le h.1 ht.size, (World.cell?_of_block (w := w) (a := ⟨b, 0, none⟩) (ht.block b h.1 hb)).trans h.2⟩
/-- a block that begins with this cell, which may be written -/
def Var1 (w : World) (b : Nat) (u : Value) : Prop := Box1 w b u ∧ w.frozen? ⟨b, 0, none⟩ = false
theorem Var1.new (w : World) (u : Value) (t : TypeId) : Var1 (w.alloc (.cells #[u] t)) w.heap.size u := ⟨Box1.new w u t, by simp⟩
theorem Var1.below {w w' : World} {b : Nat} {u : Value} (h : Var1 w b u) (hb : Below w.heap.size w w') : Var1 w' b u :=
  ⟨h.1.below hb, (hb.frozen (p := ⟨b, 0, none⟩) h.1.1).trans h.2⟩
theorem Var1.alloc {w : World} {b : Nat} {u : Value} (h : Var1 w b u) (o : Obj) : Var1 (w.alloc o) b u := h.below ((Below.refl _ _).alloc (Nat.le_refl _) o)
theorem Var1.kept {w w' : World} {b : Nat} {u : Value} {row : Option Nat} (h : Var1 w b u) (hg : w.grownBy w' row) (hne : some b ≠ row) : Var1 w' b u :=
  ⟨h.1.kept hg hne, (World.frozen?_of_block (w := w) (a := ⟨b, 0, none⟩) (hg.block b h.1.1 hne)).trans h.2⟩
theorem Var1.set {w : World} {b : Nat} {u : Value} (h : Var1 w b u) (x : Value) : Var1 (w.setCell ⟨b, 0, none⟩ x) b x :=
  ⟨⟨by simpa using h.1.1, World.cell?_setCell_same _ _ _ h.1.2⟩, by simpa using h.2⟩
theorem Var1.other {w : World} {b : Nat} {u : Value} (h : Var1 w b u) {p : Addr} (x : Value) (hne : b ≠ p.block) : Var1 (w.setCell p x) b u :=
  h.kept (grown_set w p x) (by simpa using hne)

/-- what make([]int, n) lays -/
def madeZ (n : Nat) : Array Value := madeCells (Value.int .i64 0).cells (n * 1)
theorem make_ints (n : Nat) (h : n ≤ 1024) (W : World) : (Instr.makeSlice 22 (.int .i64 (n : Int)) (.int .i64 (n : Int))).run Try.prog W = .ok (.slice (some ⟨W.heap.size, 0, none⟩) n n) (W.alloc (.cells (madeZ n) 3)) := by
  obtain ⟨i0, hi, hz0, hz1, hz2⟩ := info_parts infoInt
  have hr := run_make (P := Try.prog) W 22 3 i0 (.int .i64 0) Try.underlying22 hi hz0 .i64 .i64 n n (by omega) (Int.le_refl _) (by rw [hz2]; omega) (by omega)
  simp only [Int.toNat_natCast, hz1] at hr
  exact hr
theorem own_made (W : World) (B n : Nat) (h : n ≤ 1024) (hB : B ≤ W.heap.size) : OwnI (W.alloc (.cells (madeZ n) 3)) B (.slice (some ⟨W.heap.size, 0, none⟩) n n) (List.replicate n 0) := by
  have := World.ownsRow_lit W (e := 3) (size := 1) (madeZ n) n hB (by unfold maxLen; omega) (size_madeCells _ _)
  unfold OwnI
  rw [List.length_replicate, List.map_replicate]
  have e : (madeZ n).toList = List.replicate n (Value.int .i64 0) := by unfold madeZ; rw [Nat.mul_one]; exact toList_madeCells_one _ n
  rw [e] at this
  exact this

/-- a made row and the box that holds it -/
def MkR (W wx : World) (R : Nat) (s : Value) : Prop := ∃ g p : Nat, s = .pointer (some ⟨p, 0, none⟩) ∧ Var2 wx p (.int .i64 (R : Int)) (.slice (some ⟨g, 0, none⟩) R R) ∧ OwnI wx W.heap.size (.slice (some ⟨g, 0, none⟩) R R) (List.replicate R 0) ∧ g ≠ p ∧ W.heap.size ≤ p ∧ Below W.heap.size W wx
theorem mkR1 (W : World) (R : Nat) (h : R ≤ 1024) : MkR W (((W.alloc (.cells (madeZ R) 3)).alloc (.cells #[.int .i64 (R : Int), .slice (some ⟨W.heap.size, 0, none⟩) R R] 46)).drew) R (.pointer (some ⟨W.heap.size + 1, 0, none⟩)) := by
  have v := Var2.new (W.alloc (.cells (madeZ R) 3)) (.int .i64 (R : Int)) (.slice (some ⟨W.heap.size, 0, none⟩) R R) 46
  rw [World.size_alloc] at v
  exact ⟨W.heap.size, W.heap.size + 1, rfl, v.below ((Below.refl _ _).drew), ((own_made W W.heap.size R h (Nat.le_refl _)).alloc _).below ((Below.refl _ _).drew) (Nat.le_refl _), by omega, by omega, (((Below.refl _ _).alloc (Nat.le_refl _) _).alloc (by simp) _).drew⟩
theorem mkR2 (W : World) (R : Nat) (h : R ≤ 1024) : MkR W (((W.alloc (.cells #[.int .i64 (R : Int), .slice (some ⟨W.heap.size + 1, 0, none⟩) R R] 46)).alloc (.cells (madeZ R) 3)).drew) R (.pointer (some ⟨W.heap.size, 0, none⟩)) := by
  have v := (Var2.new W (.int .i64 (R : Int)) (.slice (some ⟨W.heap.size + 1, 0, none⟩) R R) 46).alloc (.cells (madeZ R) 3)
  have o := own_made (W.alloc (.cells #[.int .i64 (R : Int), .slice (some ⟨W.heap.size + 1, 0, none⟩) R R] 46)) W.heap.size R h (by simp)
  rw [World.size_alloc] at o
  exact ⟨W.heap.size + 1, W.heap.size, rfl, v.below ((Below.refl _ _).drew), o.below ((Below.refl _ _).drew) (Nat.le_refl _), by omega, Nat.le_refl _, (((Below.refl _ _).alloc (Nat.le_refl _) _).alloc (by simp) _).drew⟩
set_option maxRecDepth 100000 in
set_option maxHeartbeats 4000000 in
theorem iFree_any (n m : Int) (a : Option Addr) (xs : List Int) (cap : Nat) (b : Option Addr) (cs : List Int) (cap2 : Nat) (w : World) (hn : -9223372036854775808 ≤ n ∧ n ≤ 9223372036854775807) (hm : -9223372036854775808 ≤ m ∧ m ≤ 9223372036854775807) (hx : Rd w a xs) (hy : Rd w b cs) :
    Calls Try.prog 45 #[.agg #[.int .i64 n, .int .i64 m, .slice a xs.length cap], .slice b cs.length cap2] w fun e w' => ∃ a' cap', e = .returned (.tuple #[.slice a' (frL n m xs cs).length cap', .bool (frO n m xs cs)]) ∧ OwnI w' w.heap.size (.slice a' (frL n m xs cs).length cap') (frL n m xs cs) ∧ Below w.heap.size w w' := by
  obtain ⟨i0, hi, hz0, hz1, hz2⟩ := info_parts infoInt
  have hb0 : Below w.heap.size w (w.alloc (.cells #[.int .i64 n, .int .i64 m, .slice a xs.length cap] 27)) := (by repeat (first | exact Below.refl _ _ | assumption | refine Below.alloc ?_ (by first | exact Nat.le_refl _ | (simp only [World.size_alloc, World.size_setCell, World.size_drew]; omega) | omega) _ | refine Below.setCell ?_ (by first | exact Nat.le_refl _ | (simp only [World.size_alloc, World.size_setCell, World.size_drew]; omega) | omega) _ | refine Below.drew ?_))
  cases hr : feB n m xs cs
  · have ⟨h1, h2⟩ := frO_no hr
    have H1 := Lib.hid h1
    have H2 := Lib.hid h2
    have HM := Lib.hid hr
    clear hr h1 h2
    go_enter Try.func45, Try.ntmps45
    go_wp2_with fail
    refine (areEmpty_any n m _ _ _ _ _ _ _ hn hm (hx.below hb0) (hy.below hb0)).mono ?_
    rw [HM.out]
    rintro e w1 ⟨rfl, hb⟩
    have b1 : Below w.heap.size w w1 := hb0.trans (hb.mono (by simp))
    go_wp2_with fail
    refine bodyPost_ret (v := .tuple #[.slice none 0 0, .bool false]) (by simp [results, Try.results45, go_sem]) rfl ?_
    exact ⟨none, 0, by rw [H1.out, H2.out]; rfl, by rw [H2.out]; exact OwnI.nil _ _, b1⟩
  · obtain ⟨R, C, hR, hC, hp⟩ := feB_p hr
    subst hR hC
    have ⟨h1, h2⟩ := frO_yes hr
    have hpos : 0 < xs.length := by have := hp.t.r0; have := hp.t.len; omega
    obtain ⟨bA, oA, rfl, _, _⟩ := hx.cell 0 hpos
    have r0 : 1 ≤ R := by have := hp.t.r0; omega
    have r1 : R ≤ 6 := by have := hp.t.r1; omega
    have c0 : 1 ≤ C := by have := hp.t.c0; omega
    have c1 : C ≤ 6 := by have := hp.t.c1; omega
    have hl : xs.length = R := by have := hp.t.len; omega
    have hlen := hy.len
    have H1 := Lib.hid h1
    have H2 := Lib.hid h2
    have HM := Lib.hid hr
    have HP := Lib.hid hp
    have HL := Lib.hid hl
    have ht : tabB R C xs = true := by simp only [feB, Bool.and_eq_true] at hr; exact hr.1
    have E1 : Hid (mtR R C xs = C) := by simp [Hid, mtR, ht]
    have E2 : Hid (mtC R C xs = R) := by simp [Hid, mtC, ht]
    have E3 : Hid (mtL R C xs = tbL (fun r c => hasB (nth xs c) r) C R) := by simp [Hid, mtL, ht]
    have HT := Lib.hid ht
    have HCP : Hid (∀ q, q < cs.length → ∃ k : Nat, nth cs q = (k : Int) ∧ k < R * C) := fun q hq => by
      have h1 := hp.pos q hq
      have h2 := hp.lt q hq
      exact ⟨(nth cs q).toNat, by omega, by omega⟩
    have HRC : Hid (R * C ≤ 36) := Nat.mul_le_mul r1 c1
    clear hr h1 h2 hp hl ht
    go_enter Try.func45, Try.ntmps45
    go_wp2_with fail
    refine (areEmpty_any _ _ _ _ _ _ _ _ _ hn hm (hx.below hb0) (hy.below hb0)).mono ?_
    rw [HM.out]
    rintro e w1 ⟨rfl, hb⟩
    have b1 : Below w.heap.size w w1 := hb0.trans (hb.mono (by simp))
    have A1 := (Box3.new w (.int .i64 (R : Int)) (.int .i64 (C : Int)) (.slice (some ⟨bA, oA, none⟩) xs.length cap) 27).below hb
    have ⟨zA, cA, dA, eA⟩ := A1
    have b1s := b1.size
    clear hb hb0
    go_wp2_with fail
    refine (iMirTab_any _ _ _ _ _ _ hn hm (hx.below b1)).mono ?_
    rintro e w2 ⟨a2, c2, rfl, ho2, hb2⟩
    rw [E1.out, E2.out, E3.out, tbL_len, HT.out]
    rw [E3.out, tbL_len] at ho2
    have b2 := b1.trans (hb2.mono b1s)
    have A2 := A1.below hb2
    have ⟨zA2, cA2, dA2, eA2⟩ := A2
    have b2s := b2.size
    have HO2 := Lib.hid ho2
    clear hb2 A1 cA dA eA ho2
    go_wp2_with fail
    have B3 := Box3.new w2 (.int .i64 (C : Int)) (.int .i64 (R : Int)) (.slice a2 C c2) 27
    have ba : Below w2.heap.size w2 (w2.alloc (.cells #[.int .i64 (C : Int), .int .i64 (R : Int), .slice a2 C c2] 27)) := (by repeat (first | exact Below.refl _ _ | assumption | refine Below.alloc ?_ (by first | exact Nat.le_refl _ | (simp only [World.size_alloc, World.size_setCell, World.size_drew]; omega) | omega) _ | refine Below.setCell ?_ (by first | exact Nat.le_refl _ | (simp only [World.size_alloc, World.size_setCell, World.size_drew]; omega) | omega) _ | refine Below.drew ?_))
    have A3 := A2.below ba
    have HO3 := Lib.hid (HO2.out.below ba (Nat.le_refl _))
    have b3 := b2.trans (ba.mono b2s)
    obtain ⟨w3, hw3⟩ : ∃ x : World, x = w2.alloc (.cells #[.int .i64 (C : Int), .int .i64 (R : Int), .slice a2 C c2] 27) := ⟨_, rfl⟩
    rw [← hw3] at B3 A3 HO3 b3 ⊢
    have ⟨zA3, cA3, dA3, eA3⟩ := A3
    have b3s := b3.size
    have hz23 : w2.heap.size < w3.heap.size := B3.1
    have HA3 := Lib.hid A3
    have HB3 := Lib.hid B3
    clear ba hw3 A2 cA2 dA2 eA2 A3 B3
    have hmk := make_ints R (by omega)
    go_cut [8] (fun s8 wx => MkR w3 wx R s8)
    case first =>
      go_region
      all_goals
        go_wp2_with fail
        go_meet
        first | exact mkR1 _ _ (by omega) | exact mkR2 _ _ (by omega)
    case rest =>
      obtain ⟨g, p, rfl, hV, hO, hgp, hpz, hbc⟩ := hcut
      have hgz : w3.heap.size ≤ g := (hO.lt g rfl).1
      have HAc := Lib.hid (HA3.out.below hbc)
      have HBc := Lib.hid (HB3.out.below hbc)
      have HRm := Lib.hid ((HO3.out.rd).below hbc)
      have b4 := b3.trans (hbc.mono b3s)
      have HS := Lib.hid (And.intro hO (And.intro hV b4))
      clear hO hV hbc cA3 dA3 eA3 hmk b4
      obtain ⟨wz, hwz⟩ : ∃ x : World, x = wc := ⟨_, rfl⟩
      subst hwz
      go_wp2_with fail
      go_loopw [32] (fun i wr => ∃ q : Nat, q ≤ cs.length ∧ i = .int .i64 q ∧ OwnI wr w3.heap.size (.slice (some ⟨g, 0, none⟩) R R) (foL xs cs C R q) ∧ Var2 wr p (.int .i64 (R : Int)) (.slice (some ⟨g, 0, none⟩) R R) ∧ Below w.heap.size w wr ∧ Box3 wr w.heap.size (.int .i64 (R : Int)) (.int .i64 (C : Int)) (.slice (some ⟨bA, oA, none⟩) xs.length cap) ∧ Box3 wr w2.heap.size (.int .i64 (C : Int)) (.int .i64 (R : Int)) (.slice a2 C c2) ∧ Rd wr a2 (tbL (fun r c => hasB (nth xs c) r) C R)) (fun i _ => cs.length - (intOf i).toNat)
      case atStart => exact ⟨0, Nat.zero_le _, rfl, by rw [foL_zero]; exact HS.out.1, HS.out.2.1, HS.out.2.2, HAc.out, HBc.out, HRm.out⟩
      case round =>
        obtain ⟨q, hq, rfl, hO, hV, hb, hA, hB, hR⟩ := hrel
        have HOq := Lib.hid hO
        have HVq := Lib.hid hV
        have HBb := Lib.hid hb
        have HAq := Lib.hid hA
        have HBq := Lib.hid hB
        have HRq := Lib.hid hR
        have hbs := hb.size
        by_cases hlt : q < cs.length
        · obtain ⟨b5, off5, rfl, hbl5, hc5⟩ := (hy.below hb).cell q hlt
          obtain ⟨c, hce, hcl⟩ := HCP.out q hlt
          have hc36 : c ≤ 36 := by have := HRC.out; omega
          rw [hce] at hc5
          have hr : c / C < R := Nat.div_lt_of_lt_mul (by rw [Nat.mul_comm]; exact hcl)
          have hd : c % C < C := Nat.mod_lt _ (by omega)
          have HPL := Lib.hid (fun w' => tabPlace_any (R : Int) C (some ⟨bA, oA, none⟩) xs.length cap c w' (by omega) c1 hc36)
          obtain ⟨r, hrr⟩ : ∃ r, r = c / C := ⟨_, rfl⟩
          obtain ⟨d, hdd⟩ : ∃ d, d = c % C := ⟨_, rfl⟩
          have HST : Hid ((foL xs cs C R q).set r ((rowBits (foT xs cs C q r) R ||| rowBits (fun r => hasB (nth xs r) (d : Int)) R : Nat) : Int) = foL xs cs C R (q+1)) := foL_step (by omega) (by rw [hce, Int.toNat_natCast, hrr]) (by rw [hce, Int.toNat_natCast, hdd])
          rw [← hrr] at hr
          rw [← hdd] at hd
          simp only [← hrr, ← hdd] at HPL
          have ⟨zA, cA, dA, eA⟩ := hA
          clear hrr hdd hce hcl hO hV hb hA hB hR
          go_wp2_with fail
          refine (HPL.out _).mono ?_
          rintro e w6 ⟨rfl, hb6⟩
          have b6 := HBb.out.trans (hb6.mono hbs)
          have O6 := HOq.out.below hb6 (Nat.le_refl _)
          have V6 := HVq.out.below hb6
          have B6 := HBq.out.below hb6
          have R6 := HRq.out.below hb6
          have A6 := HAq.out.below hb6
          have ⟨ci, fi⟩ := O6.at' (by rw [foL_len]) (i := r) (by rw [foL_len]; exact hr)
          rw [foL_nth hr] at ci
          obtain ⟨b7, off7, rfl, hbl7, hc7⟩ := R6.cell d (by rw [tbL_len]; exact hd)
          rw [show nth (tbL (fun r c => hasB (nth xs c) r) C R) d = ((rowBits (fun r => hasB (nth xs r) (d : Int)) R : Nat) : Int) from fmap_nth _ hd] at hc7
          have hs1 := rowBits_small (foT xs cs C q r) (k := R) r1
          have hs2 := rowBits_small (fun r => hasB (nth xs r) (d : Int)) (k := R) r1
          have hor := or_nat (rowBits (foT xs cs C q r) R) (rowBits (fun r => hasB (nth xs r) (d : Int)) R) (by omega) (by omega)
          have hput := O6.put (by rw [foL_len]) r ((rowBits (foT xs cs C q r) R ||| rowBits (fun r => hasB (nth xs r) (d : Int)) R : Nat) : Int)
          rw [HST.out] at hput
          have HP6 := Lib.hid hput
          have HOR := Lib.hid hor
          have HV6 := Lib.hid V6
          have HB6 := Lib.hid B6
          have HR6 := Lib.hid R6
          have HA6 := Lib.hid A6
          have ⟨⟨zV, cV, dV⟩, fV, gV⟩ := V6
          have ⟨zB, cB, dB, eB⟩ := B6
          have hg2 : w2.heap.size ≠ g := by omega
          have hg1 : w.heap.size ≠ g := by omega
          have r0' : (0 : Int) ≤ (r : Int) := by omega
          have r1' : (r : Int) < (R : Int) := by omega
          have d0 : (0 : Int) ≤ (d : Int) := by omega
          have d1 : (d : Int) < (C : Int) := by omega
          have hRg : Hid (∀ (u : Value), Rd (w6.setCell ⟨g, r, none⟩ u) (some ⟨b7, off7, none⟩) (tbL (fun r c => hasB (nth xs c) r) C R)) := fun u => by
            have hb7 : b7 < w3.heap.size := by
              have h1 := HO3.out.blk b7 off7 none rfl
              exact h1.2
            exact R6.same (by simp) (fun b off e => by
              simp only [Option.some.injEq, Addr.mk.injEq, and_true] at e
              obtain ⟨rfl, rfl⟩ := e
              exact Below.heap_setCell _ _ _ _ (by show b7 ≠ g; omega))
          clear hs1 hs2 hor hput O6 V6 B6 R6 A6 hb6 cA dA eA zA
          go_wp2_with fail
          go_region
          all_goals
            go_wp2_with fail
            go_roundw
            case rel =>
              rw [HOR.out]
              exact ⟨q + 1, by omega, by go_num, HP6.out.1.below ((Below.refl _ _).drew) (Nat.le_refl _), (HV6.out.other (p := ⟨g, r, none⟩) _ (show p ≠ g by omega)).below ((Below.refl _ _).drew), (b6.setCell (p := ⟨g, r, none⟩) (show w.heap.size ≤ g by omega) _).drew, (HA6.out.set (p := ⟨g, r, none⟩) _ hg1).below ((Below.refl _ _).drew), (HB6.out.set (p := ⟨g, r, none⟩) _ hg2).below ((Below.refl _ _).drew), (hRg.out _).below ((Below.refl _ _).drew)⟩
            case measure => simp [intOf] <;> omega
        · have HQ : Hid (foL xs cs C R q = foA R C xs cs) := by
            have : q = cs.length := by omega
            rw [Hid, this]; rfl
          have hrl : RelP (R : Int) (foA R C xs cs) := foL_rel (by omega)
          have HRB : Hid (relB (R : Int) (foA R C xs cs) = true) := by
            have h3 : ((2 ^ R : Nat) : Int) = (2 : Int) ^ R := by simp
            refine relB_iff.2 ⟨⟨by omega, by omega⟩, by rw [foA_len], ?_⟩
            simp only [allB, List.all_eq_true]
            intro x hx
            obtain ⟨i, hi, rfl⟩ := List.getElem_of_mem hx
            rw [← nth_get _ _ hi, inB_iff, Int.toNat_natCast]
            have h4 := hrl.pos i hi
            have h5 := hrl.lt i hi
            rw [foA_len] at h5
            omega
          have E4 : Hid (cloN R (foA R C xs cs) = R) := by rw [Hid, cloN, HRB.out]; rfl
          have E5 : Hid (cloL R (foA R C xs cs) = clo (foA R C xs cs)) := by rw [Hid, cloL, HRB.out]; rfl
          have E6 : Hid (fstL R (clo (foA R C xs cs)) = frX R C xs cs) := by
            rw [Hid, fstL, frX, clo_len, foA_len]
          have hrd := hO.rd
          rw [HQ.out] at hrd
          have ⟨⟨zV, cV, dV⟩, fV, gV⟩ := hV
          have hfl : (foA R C xs cs).length = R := foA_len _ _ _ _
          have HCL := Lib.hid (iCloseRelation_any (R : Int) (some ⟨g, 0, none⟩) (foA R C xs cs) R wr ⟨by omega, by omega⟩ hrd)
          rw [hfl] at HCL
          clear hO hV hb hA hB hR hrd hfl hrl
          go_wp2_with fail
          refine HCL.out.mono ?_
          rintro e w7 ⟨a7, c7, rfl, ho7, hb7⟩
          rw [E4.out, E5.out, clo_len, foA_len, HRB.out]
          rw [E5.out, clo_len, foA_len] at ho7
          have b7 := HBb.out.trans (hb7.mono hbs)
          have hrd7 := ho7.rd
          have hFX := iFirst_any (R : Int) a7 (clo (foA R C xs cs)) c7
          rw [clo_len, foA_len, E6.out] at hFX
          have HFX := Lib.hid hFX
          have b7s := b7.size
          have R1 := Var2.new w7 (.int .i64 (R : Int)) (.slice a7 R c7) 46
          have HRD7 := Lib.hid (hrd7.alloc (.cells #[.int .i64 (R : Int), .slice a7 R c7] 46))
          clear hb7 ho7 hrd7 hFX cV dV fV gV
          go_wp2_with fail
          refine (HFX.out _ ⟨by omega, by omega⟩ HRD7.out).mono ?_
          rintro e w8 ⟨a8, c8, rfl, ho8, hb8⟩
          have b8 : Below w.heap.size w w8 := b7.trans (Below.trans (by repeat (first | exact Below.refl _ _ | assumption | refine Below.alloc ?_ (by first | exact Nat.le_refl _ | (simp only [World.size_alloc, World.size_setCell, World.size_drew]; omega) | omega) _ | refine Below.setCell ?_ (by first | exact Nat.le_refl _ | (simp only [World.size_alloc, World.size_setCell, World.size_drew]; omega) | omega) _ | refine Below.drew ?_)) (hb8.mono (by simp; omega)))
          have HO8 := Lib.hid (ho8.mono (B' := w.heap.size) (by simp; omega))
          clear hb8 ho8
          go_wp2_with fail
          refine bodyPost_ret (v := .tuple #[.slice a8 (frX R C xs cs).length c8, .bool (ordB R (clo (foA R C xs cs)))]) (by simp [results, Try.results45, go_sem]) rfl ?_
          exact ⟨a8, c8, by rw [H1.out, H2.out], by rw [H2.out]; exact HO8.out, b8⟩

set_option maxRecDepth 100000 in
theorem spFit_any (p q : Nat) (n m : Int) (a : Option Addr) (xs : List Int) (cap : Nat) (ac : Option Addr) (cpc : Nat) (b : Option Addr) (L : List Int) (cap2 : Nat) (w : World) (hn : -9223372036854775808 ≤ n ∧ n ≤ 9223372036854775807) (hm : -9223372036854775808 ≤ m ∧ m ≤ 9223372036854775807) (hB : Box3 w p (.int .i64 n) (.int .i64 m) (.slice a xs.length cap)) (hq : w.cell? ⟨q, 0, none⟩ = some (.slice ac (ecL n m xs).length cpc)) (hpw : p < w.heap.size) (hqw : q < w.heap.size) (hx : Rd w a xs) (hy : Rd w ac (ecL n m xs)) (hz : Rd w b L) (h0 : 0 < L.length) (hl : L.length ≤ (ecL n m xs).length) :
    Calls Try.prog 84 #[.slice b L.length cap2, .pointer (some ⟨p, 0, none⟩), .pointer (some ⟨q, 0, none⟩)] w fun e w' => e = .returned (.bool (fitB n m xs L)) ∧ Below w.heap.size w w' := by
  have h36 := ecL_36 n m xs
  have HX := Lib.hid hx
  have HY := Lib.hid hy
  have HZ := Lib.hid hz
  have HBX := Lib.hid hB
  have HF : Hid (fitB n m xs L = frO n m xs (selTo (ecL n m xs) L (nth L (L.length - 1)) L.length)) := rfl
  obtain ⟨cs, hcs⟩ : ∃ cs, cs = ecL n m xs := ⟨_, rfl⟩
  rw [← hcs] at hq hl h36 HY HF
  clear hcs hx hy hB
  obtain ⟨K, hK⟩ : ∃ K, L.length = K + 1 := ⟨L.length - 1, by omega⟩
  obtain ⟨b1, o1, rfl, hb1, hc1⟩ := hz.cell K (by omega)
  rw [show L.length - 1 = K by omega] at HF
  have HS : Hid (∀ w', Below w.heap.size w w' → Calls Try.prog 85 #[.slice ac cs.length cpc, .slice (some ⟨b1, o1, none⟩) L.length cap2, .int .i64 (nth L K)] w' fun e w'' => ∃ a' cap', e = .returned (.slice a' (selTo cs L (nth L K) L.length).length cap') ∧ OwnI w'' w'.heap.size (.slice a' (selTo cs L (nth L K) L.length).length cap') (selTo cs L (nth L K) L.length) ∧ Below w'.heap.size w' w'') := fun w' hb =>
    iSel_any ac cs cpc (some ⟨b1, o1, none⟩) L cap2 (nth L K) w' (HY.out.below hb) (HZ.out.below hb) hl h36
  have ⟨zB, cB, dB, eB⟩ := HBX.out
  obtain ⟨v, hv⟩ : ∃ v, v = nth L K := ⟨_, rfl⟩
  obtain ⟨S, hS⟩ : ∃ S, S = selTo cs L v L.length := ⟨_, rfl⟩
  rw [← hv] at hc1 HS HF
  rw [← hS] at HS HF
  clear hS hv hz
  obtain ⟨N, hN⟩ : ∃ N, N = L.length := ⟨_, rfl⟩
  rw [← hN] at HS hl h0 hK ⊢
  have hk0 : (0 : Int) ≤ (K : Int) := by omega
  have hk1 : (K : Int) < (N : Int) := by omega
  have hk2 : IntKind.i64.wrap ((N : Int) - 1) = (K : Int) := by rw [i64_wrap, show (N : Int) - 1 = (K : Int) by omega]; exact IntWalk.wrap64_in _ ⟨by omega, by omega⟩
  clear hK hl h0 hN
  rw [HF.out]
  go_enter Try.func84, Try.ntmps84
  go_wp2_with fail
  go_region_held3 (fun w' => w'.cell? ⟨p, 0, none⟩ = some (.int .i64 n) ∧ w'.cell? ⟨p, 1, none⟩ = some (.int .i64 m) ∧ w'.cell? ⟨p, 2, none⟩ = some (.slice a xs.length cap) ∧ w'.cell? ⟨q, 0, none⟩ = some (.slice ac cs.length cpc) ∧ w'.cell? ⟨b1, o1 + K, none⟩ = some (.int .i64 v))
    (first | exact ⟨A3.2.1, A3.2.2.1, A3.2.2.2, q3, d3⟩ | exact ⟨A2.2.1, A2.2.2.1, A2.2.2.2, q2, d2⟩ | go_keep)
    (first | (have _g := ht2; go_at_call 45; refine (iFree_any n m a xs cap _ S _ _ hn hm (HX.out.below ht2) ho2.rd).mono ?_; rintro e w3 ⟨a3, c3, rfl, ho3, hb3⟩; have ht3 := ht2.trans (hb3.mono ht2.size); have A3 := A2.below hb3; have q3 := (ht3.cell (p := ⟨q, 0, none⟩) hqw).trans hq; have d3 := (ht3.cell (p := ⟨b1, o1 + K, none⟩) hb1).trans hc1) | (go_at_call 85; refine (HS.out _ (Joins.below_draws _ _ _)).mono ?_; rintro e w2 ⟨a2, c2, rfl, ho2, hb2⟩; have ht2 : Below w.heap.size w w2 := (Joins.below_draws _ _ _).trans hb2; have A2 := HBX.out.below ht2; have q2 := (ht2.cell (p := ⟨q, 0, none⟩) hqw).trans hq; have d2 := (ht2.cell (p := ⟨b1, o1 + K, none⟩) hb1).trans hc1))
  go_wp2_with fail
  go_ret
  exact ⟨rfl, ht3⟩

/-- what stands behind the search -/
def CnPost (w0 : World) (B g cap n L : Nat) (l : List Int) (r : Option (List Int)) (e : Ending) (w' : World) : Prop :=
  Below B w0 w' ∧ ((∃ ys, r = some ys ∧ ys.length = L ∧ e = .returned (.tuple #[.slice (some ⟨g, 0, none⟩) L cap, .bool true]) ∧ OwnI w' B (.slice (some ⟨g, 0, none⟩) L cap) ys) ∨ (r = none ∧ e = .returned (.tuple #[.slice none 0 0, .bool false]) ∧ OwnI w' B (.slice (some ⟨g, 0, none⟩) n cap) l))

theorem OwnI.init {w : World} {B g n cap : Nat} {xs : List Int} {x : Int} (h : OwnI w B (.slice (some ⟨g, 0, none⟩) n cap) (xs ++ [x])) : OwnI w B (.slice (some ⟨g, 0, none⟩) xs.length cap) xs := by
  rcases h.2 with ⟨e, _⟩ | ⟨g', cap', cur, e, hb, hg, hn, hm, hs, ht⟩
  · cases e
  · simp only [Value.slice.injEq, Option.some.injEq, Addr.mk.injEq, and_true] at e
    obtain ⟨rfl, _, rfl⟩ := e
    rw [List.length_append, List.length_singleton] at hn ht
    refine ⟨by simp, .inr ⟨_, _, cur, rfl, hb, hg, by omega, hm, hs, ?_⟩⟩
    have h1 := congrArg (List.take xs.length) ht
    rw [List.take_take, show min xs.length ((xs.length + 1) * 1) = xs.length * 1 by omega, List.map_append] at h1
    rw [h1, List.take_append_of_le_length (by simp), List.take_of_length_le (by simp)]

/-- a function value that tells of a list in a buffer whether it fits -/
def FitsV (w0 : World) (B : Nat) (fn : Nat) (caps : Array Value) (F : List Int → Bool) (lim L : Nat) : Prop :=
  ∀ (l : List Int) (g cap : Nat) (w' : World), 0 < l.length → l.length ≤ L → LtL lim l → Below B w0 w' → OwnI w' B (.slice (some ⟨g, 0, none⟩) l.length cap) l → Calls Try.prog fn (#[.slice (some ⟨g, 0, none⟩) l.length cap] ++ caps) w' fun e w'' => e = .returned (.bool (F l)) ∧ Below w'.heap.size w' w''
set_option maxRecDepth 100000 in
set_option maxHeartbeats 4000000 in
theorem cn_any (w0 : World) (B g cap : Nat) (fn : Nat) (caps : Array Value) (F : List Int → Bool) (lim L : Nat) (hlim : lim ≤ 2000) (hL : L ≤ 36) (hcap : L ≤ cap) (hB0 : B ≤ w0.heap.size) (hE : ∀ args w, (callFunc fn args).run Try.prog w = .ok (.enter fn args) w) (hF : FitsV w0 B fn caps F lim L) :
    ∀ (d : Nat) (l : List Int) (w : World), l.length + d = L → LtL lim l → Below B w0 w → OwnI w B (.slice (some ⟨g, 0, none⟩) l.length cap) l →
    Calls Try.prog 83 #[.int .i64 (L : Int), .int .i64 (lim : Int), .slice (some ⟨g, 0, none⟩) l.length cap, .func (.func fn) #[] caps] w (CnPost w0 B g cap l.length L l (cnS F lim d l)) := by
  intro d
  induction d with
  | zero =>
    intro l w hl hlt hb ho
    have hz : ((l.length : Int) == (L : Int)) = true := by simp; omega
    have HP : Hid (CnPost w0 B g cap l.length L l (cnS F lim 0 l) (.returned (.tuple #[.slice (some ⟨g, 0, none⟩) l.length cap, .bool true])) w) := by
      have e : l.length = L := by omega
      refine ⟨hb, .inl ⟨l, rfl, e, by rw [e], ?_⟩⟩
      rw [← e]; exact ho
    clear hb ho hl hlt
    go_enter Try.func83, Try.ntmps83
    go_wp2_with fail
    exact bodyPost_ret (v := .tuple #[.slice (some ⟨g, 0, none⟩) l.length cap, .bool true]) (by simp [results, Try.results83, go_sem]) rfl HP.out
  | succ d ih =>
    intro l w hl hlt hb ho
    obtain ⟨i0, hi, hz0, hz1, hz2⟩ := info_parts infoInt
    have hz : ((l.length : Int) == (L : Int)) = false := by simp; omega
    have HIH := Lib.hid ih
    have HLT := Lib.hid hlt
    have HBW := Lib.hid hb
    have HO := Lib.hid ho
    have hll : l.length < L := by omega
    have HUN : Hid (∀ k, k ≤ l.length → unTo l k ≤ lim) := fun k hk => unTo_le hlt k hk
    have HLD : Hid (l.length + 1 + d = L) := by show l.length + 1 + d = L; omega
    have hrd := ho.rd
    clear ih hlt hb ho hl
    go_enter Try.func83, Try.ntmps83
    go_wp2_with fail
    go_loop [10, 24] (fun u i => ∃ k : Nat, k ≤ l.length ∧ i = .int .i64 k ∧ u = .int .i64 ((unTo l k : Nat) : Int)) (fun _ i => l.length - (intOf i).toNat)
    case atStart => exact ⟨0, Nat.zero_le _, rfl, rfl⟩
    case round =>
      obtain ⟨k, hk, rfl, rfl⟩ := hrel
      by_cases hlk : k < l.length
      · obtain ⟨b, off, e, hbl, hc⟩ := hrd.cell k hlk
        simp only [Option.some.injEq, Addr.mk.injEq, and_true] at e
        obtain ⟨rfl, rfl⟩ := e
        try rw [Nat.zero_add] at hc
        have ⟨x0, x1⟩ := HLT.out k hlk
        have hu := HUN.out k hk
        have HU : Hid (unTo l (k+1) = max (unTo l k) ((nth l k).toNat + 1)) := rfl
        rcases Nat.lt_or_ge (unTo l k) ((nth l k).toNat + 1) with hc1 | hc1
        · have h1 : ((unTo l k : Nat) : Int) < nth l k + 1 := by omega
          have HU2 : Hid (((unTo l (k+1) : Nat) : Int) = nth l k + 1) := by have := HU.out; show _ = _; omega
          clear hc1
          go_wp2_with fail
          all_goals
            go_round
            case rel => exact ⟨k + 1, by omega, by go_num, val_int (by rw [HU2.out])⟩
            case measure => simp [intOf] <;> omega
        · have h1 : nth l k + 1 ≤ ((unTo l k : Nat) : Int) := by omega
          have HU2 : Hid (((unTo l (k+1) : Nat) : Int) = ((unTo l k : Nat) : Int)) := by have := HU.out; show _ = _; omega
          clear hc1
          go_wp2_with fail
          all_goals
            go_round
            case rel => exact ⟨k + 1, by omega, by go_num, val_int (by rw [HU2.out])⟩
            case measure => simp [intOf] <;> omega
      · have hun := HUN.out l.length (Nat.le_refl _)
        have hkl : k = l.length := by omega
        rw [hkl]
        clear hk hlk hkl
        obtain ⟨U, hU⟩ : ∃ U, U = unTo l l.length := ⟨_, rfl⟩
        rw [← hU] at hun ⊢
        obtain ⟨M, hM⟩ : ∃ M, M = min lim (U + 1) := ⟨_, rfl⟩
        have HR : Hid (cnS F lim (d+1) l = find1 (fun x => if F (l ++ [(x : Int)]) then cnS F lim d (l ++ [(x : Int)]) else none) M) := by rw [Hid, cnS, hM, hU]
        have hMl : M ≤ lim := by omega
        have hMi : min (lim : Int) ((U : Int) + 1) = (M : Int) := by omega
        have HMI := Lib.hid hMi
        have hm3 : M ≤ U + 1 := by omega
        have hm4 : lim ≤ M ∨ U + 1 ≤ M := by omega
        have HM4 := Lib.hid hm4
        clear hU hM hMi hm4
        obtain ⟨G, hG⟩ : ∃ G : Nat → Option (List Int), G = fun x : Nat => if F (l ++ [(x : Int)]) then cnS F lim d (l ++ [(x : Int)]) else none := ⟨_, rfl⟩
        have HG : Hid (∀ x : Nat, G x = if F (l ++ [(x : Int)]) then cnS F lim d (l ++ [(x : Int)]) else none) := fun x => by rw [hG]
        rw [← hG] at HR
        clear hG
        rcases Nat.lt_or_ge (U + 1) lim with hLU | hLU
        · have hMU : M = U + 1 := by have := HM4.out; omega
          have h0 : (U : Int) + 1 < (lim : Int) := by omega
          go_wp2_with fail
          rw [show (U : Int) + 1 = (M : Int) by omega]
          clear hMU h0 hLU

          go_loopw [37] (fun i wq => ∃ k : Nat, k ≤ M ∧ i = .int .i64 k ∧ OwnI wq B (.slice (some ⟨g, 0, none⟩) l.length cap) l ∧ Below B w0 wq ∧ (∀ j, j < k → G j = none)) (fun i _ => M - (intOf i).toNat)
          case atStart => exact ⟨0, Nat.zero_le _, rfl, HO.out, HBW.out, fun j hj => by omega⟩
          case round =>
            obtain ⟨k, hk, rfl, hoq, hbq, hno⟩ := hrel
            have HNO := Lib.hid hno
            have HBQ := Lib.hid hbq
            have hbs := Nat.le_trans hB0 hbq.size
            clear hno
            by_cases hkM : k < M
            · have h1 : (k : Int) < (M : Int) := by omega
              have hkl : k < lim := by omega
              have HL1 := Lib.hid (HLT.out.snoc hkl)
              have HLN : Hid ((l ++ [(k : Int)]).length = l.length + 1) := by simp [Hid]
              have HGK := Lib.hid (HG.out k)
              clear hk
              go_wp2_with (at_builtin; refine wpList_append_fits _ rfl _ _ 22 rfl B 3 i0 1 Try.underlying22 hi hz1 g l.length cap (l.map (Value.int .i64)) rfl (by have h := hoq.alloc (.cells #[.int .i64 (k : Int)] 3); unfold OwnI at h; exact h) ⟨wr.heap.size, 0, none⟩ 1 1 [.int .i64 (k : Int)] rfl rfl (cell_one_new _ _ _) (by intro u hu; simp at hu; subst hu; rfl) (by omega) ?_)
              intro w3 hown3 hgrow
              have hU3 := (hoq.lt g rfl).1
              have hg2 := grown_alloc_set hgrow
              have b3 : Below B w0 w3 := HBQ.out.trans (grown_below hg2 _ hU3 hbs)
              have o3 : OwnI w3 B (.slice (some ⟨g, 0, none⟩) (l ++ [(k : Int)]).length cap) (l ++ [(k : Int)]) := by
                unfold OwnI
                rw [List.length_append, List.map_append]
                exact hown3
              have HB3 := Lib.hid b3
              have HO3 := Lib.hid o3
              have hb3 := Nat.le_trans hB0 b3.size
              have HC := Lib.hid (hF (l ++ [(k : Int)]) g cap w3 (by simp) (by simp; omega) HL1.out b3 o3)
              clear hown3 hgrow hg2 b3 o3 hoq hbq
              obtain ⟨P, hP⟩ : ∃ P, P = l ++ [(k : Int)] := ⟨_, rfl⟩
              rw [← hP] at HL1 HLN HGK HO3 HC
              have HPE := Lib.hid hP
              clear hP
              rw [HLN.out] at HC HO3
              go_wp2_with fail
              refine HC.out.mono ?_
              rintro e w4 ⟨rfl, hb4⟩
              have O4 := HO3.out.below hb4 (Nat.le_refl _)
              have B4 := HB3.out.trans (hb4.mono hb3)
              have HO4 := Lib.hid O4
              have HB4 := Lib.hid B4
              clear O4 B4 hb4
              cases hFP : F P
              · go_wp2_with fail
                have O5 := HO4.out
                rw [HPE.out] at O5
                have O6 := O5.init
                have HN6 : Hid (∀ j, j < k + 1 → G j = none) := by
                  intro j hj
                  by_cases e : j = k
                  · rw [e, HGK.out, hFP]; rfl
                  · exact HNO.out j (by omega)
                go_roundw
                case rel => exact ⟨k + 1, by omega, by go_num, O6, HB4.out, HN6.out⟩
                case measure => simp [intOf]; omega
              · have HC2 := Lib.hid (HIH.out P w4 (by rw [HLN.out]; exact HLD.out) HL1.out HB4.out (by rw [HLN.out]; exact HO4.out))
                rw [HLN.out] at HC2
                go_wp2_with fail
                refine HC2.out.mono ?_
                rintro e w5 ⟨hb5, ⟨ys, hys, hyl, rfl, ho5⟩ | ⟨hys, rfl, ho5⟩⟩
                · have HPO : Hid (CnPost w0 B g cap l.length L l (cnS F lim (d+1) l) (.returned (.tuple #[.slice (some ⟨g, 0, none⟩) L cap, .bool true])) w5) := by
                    refine ⟨hb5, .inl ⟨ys, ?_, hyl, rfl, ho5⟩⟩
                    rw [HR.out]
                    exact find1_some hkM (by rw [HGK.out, hFP]; exact hys) HNO.out
                  clear ho5 hb5
                  go_wp2_with fail
                  exact bodyPost_ret (v := .tuple #[.slice (some ⟨g, 0, none⟩) L cap, .bool true]) (by simp [results, Try.results83, go_sem]) rfl HPO.out
                · rw [HPE.out] at ho5
                  have O6 := ho5.init
                  have HO6 := Lib.hid O6
                  have HB6 := Lib.hid hb5
                  clear O6 ho5 hb5
                  have HN6 : Hid (∀ j, j < k + 1 → G j = none) := by
                    intro j hj
                    by_cases e : j = k
                    · rw [e, HGK.out, hFP]; exact hys
                    · exact HNO.out j (by omega)
                  go_wp2_with fail
                  go_roundw
                  case rel => exact ⟨k + 1, by omega, by go_num, HO6.out, HB6.out, HN6.out⟩
                  case measure => simp [intOf]; omega
            · have hkE : k = M := by omega
              have HPO : Hid (CnPost w0 B g cap l.length L l (cnS F lim (d+1) l) (.returned (.tuple #[.slice none 0 0, .bool false])) wr) := by
                refine ⟨HBQ.out, .inr ⟨?_, rfl, hoq⟩⟩
                rw [HR.out]
                exact find1_none (fun j hj => HNO.out j (by omega))
              have h1 : ¬ (k : Int) < (M : Int) := by omega
              clear hoq hbq
              go_wp2_with fail
              exact bodyPost_ret (v := .tuple #[.slice none 0 0, .bool false]) (by simp [results, Try.results83, go_sem]) rfl HPO.out
        · have hMU : lim = M := by have := HM4.out; omega
          have h0 : ¬ (U : Int) + 1 < (lim : Int) := by omega
          have h00 : (lim : Int) ≤ (U : Int) + 1 := by omega
          rw [← hMU] at HR
          clear hMU HMI hm3 HM4 hMl
          go_wp2_with fail
          clear h0 h00 hLU

          go_loopw [37] (fun i wq => ∃ k : Nat, k ≤ lim ∧ i = .int .i64 k ∧ OwnI wq B (.slice (some ⟨g, 0, none⟩) l.length cap) l ∧ Below B w0 wq ∧ (∀ j, j < k → G j = none)) (fun i _ => lim - (intOf i).toNat)
          case atStart => exact ⟨0, Nat.zero_le _, rfl, HO.out, HBW.out, fun j hj => by omega⟩
          case round =>
            obtain ⟨k, hk, rfl, hoq, hbq, hno⟩ := hrel
            have HNO := Lib.hid hno
            have HBQ := Lib.hid hbq
            have hbs := Nat.le_trans hB0 hbq.size
            clear hno
            by_cases hkM : k < lim
            · have h1 : (k : Int) < (lim : Int) := by omega
              have hkl : k < lim := by omega
              have HL1 := Lib.hid (HLT.out.snoc hkl)
              have HLN : Hid ((l ++ [(k : Int)]).length = l.length + 1) := by simp [Hid]
              have HGK := Lib.hid (HG.out k)
              clear hk
              go_wp2_with (at_builtin; refine wpList_append_fits _ rfl _ _ 22 rfl B 3 i0 1 Try.underlying22 hi hz1 g l.length cap (l.map (Value.int .i64)) rfl (by have h := hoq.alloc (.cells #[.int .i64 (k : Int)] 3); unfold OwnI at h; exact h) ⟨wr.heap.size, 0, none⟩ 1 1 [.int .i64 (k : Int)] rfl rfl (cell_one_new _ _ _) (by intro u hu; simp at hu; subst hu; rfl) (by omega) ?_)
              intro w3 hown3 hgrow
              have hU3 := (hoq.lt g rfl).1
              have hg2 := grown_alloc_set hgrow
              have b3 : Below B w0 w3 := HBQ.out.trans (grown_below hg2 _ hU3 hbs)
              have o3 : OwnI w3 B (.slice (some ⟨g, 0, none⟩) (l ++ [(k : Int)]).length cap) (l ++ [(k : Int)]) := by
                unfold OwnI
                rw [List.length_append, List.map_append]
                exact hown3
              have HB3 := Lib.hid b3
              have HO3 := Lib.hid o3
              have hb3 := Nat.le_trans hB0 b3.size
              have HC := Lib.hid (hF (l ++ [(k : Int)]) g cap w3 (by simp) (by simp; omega) HL1.out b3 o3)
              clear hown3 hgrow hg2 b3 o3 hoq hbq
              obtain ⟨P, hP⟩ : ∃ P, P = l ++ [(k : Int)] := ⟨_, rfl⟩
              rw [← hP] at HL1 HLN HGK HO3 HC
              have HPE := Lib.hid hP
              clear hP
              rw [HLN.out] at HC HO3
              go_wp2_with fail
              refine HC.out.mono ?_
              rintro e w4 ⟨rfl, hb4⟩
              have O4 := HO3.out.below hb4 (Nat.le_refl _)
              have B4 := HB3.out.trans (hb4.mono hb3)
              have HO4 := Lib.hid O4
              have HB4 := Lib.hid B4
              clear O4 B4 hb4
              cases hFP : F P
              · go_wp2_with fail
                have O5 := HO4.out
                rw [HPE.out] at O5
                have O6 := O5.init
                have HN6 : Hid (∀ j, j < k + 1 → G j = none) := by
                  intro j hj
                  by_cases e : j = k
                  · rw [e, HGK.out, hFP]; rfl
                  · exact HNO.out j (by omega)
                go_roundw
                case rel => exact ⟨k + 1, by omega, by go_num, O6, HB4.out, HN6.out⟩
                case measure => simp [intOf]; omega
              · have HC2 := Lib.hid (HIH.out P w4 (by rw [HLN.out]; exact HLD.out) HL1.out HB4.out (by rw [HLN.out]; exact HO4.out))
                rw [HLN.out] at HC2
                go_wp2_with fail
                refine HC2.out.mono ?_
                rintro e w5 ⟨hb5, ⟨ys, hys, hyl, rfl, ho5⟩ | ⟨hys, rfl, ho5⟩⟩
                · have HPO : Hid (CnPost w0 B g cap l.length L l (cnS F lim (d+1) l) (.returned (.tuple #[.slice (some ⟨g, 0, none⟩) L cap, .bool true])) w5) := by
                    refine ⟨hb5, .inl ⟨ys, ?_, hyl, rfl, ho5⟩⟩
                    rw [HR.out]
                    exact find1_some hkM (by rw [HGK.out, hFP]; exact hys) HNO.out
                  clear ho5 hb5
                  go_wp2_with fail
                  exact bodyPost_ret (v := .tuple #[.slice (some ⟨g, 0, none⟩) L cap, .bool true]) (by simp [results, Try.results83, go_sem]) rfl HPO.out
                · rw [HPE.out] at ho5
                  have O6 := ho5.init
                  have HO6 := Lib.hid O6
                  have HB6 := Lib.hid hb5
                  clear O6 ho5 hb5
                  have HN6 : Hid (∀ j, j < k + 1 → G j = none) := by
                    intro j hj
                    by_cases e : j = k
                    · rw [e, HGK.out, hFP]; exact hys
                    · exact HNO.out j (by omega)
                  go_wp2_with fail
                  go_roundw
                  case rel => exact ⟨k + 1, by omega, by go_num, HO6.out, HB6.out, HN6.out⟩
                  case measure => simp [intOf]; omega
            · have hkE : k = lim := by omega
              have HPO : Hid (CnPost w0 B g cap l.length L l (cnS F lim (d+1) l) (.returned (.tuple #[.slice none 0 0, .bool false])) wr) := by
                refine ⟨HBQ.out, .inr ⟨?_, rfl, hoq⟩⟩
                rw [HR.out]
                exact find1_none (fun j hj => HNO.out j (by omega))
              have h1 : ¬ (k : Int) < (lim : Int) := by omega
              clear hoq hbq
              go_wp2_with fail
              exact bodyPost_ret (v := .tuple #[.slice none 0 0, .bool false]) (by simp [results, Try.results83, go_sem]) rfl HPO.out

theorem make_room (n : Nat) (h : n ≤ 1024) (W : World) : (Instr.makeSlice 22 (.int .i64 0) (.int .i64 (n : Int))).run Try.prog W = .ok (.slice (some ⟨W.heap.size, 0, none⟩) 0 n) (W.alloc (.cells (madeZ n) 3)) := by
  obtain ⟨i0, hi, hz0, hz1, hz2⟩ := info_parts infoInt
  have hr := run_make (P := Try.prog) W 22 3 i0 (.int .i64 0) Try.underlying22 hi hz0 .i64 .i64 0 n (by omega) (by omega) (by rw [hz2]; omega) (by omega)
  simp only [Int.toNat_natCast, Int.toNat_zero, hz1] at hr
  exact hr
theorem own_room (W : World) (B n : Nat) (h : n ≤ 1024) (hB : B ≤ W.heap.size) : OwnI (W.alloc (.cells (madeZ n) 3)) B (.slice (some ⟨W.heap.size, 0, none⟩) 0 n) [] := by
  rcases (own_made W B n h hB).2 with ⟨e, _⟩ | ⟨g', cap', cur, e, hb, hg, hn, hm, hs, ht⟩
  · cases e
  · simp only [Value.slice.injEq, Option.some.injEq, Addr.mk.injEq, and_true] at e
    obtain ⟨rfl, _, rfl⟩ := e
    exact ⟨by simp, .inr ⟨_, _, cur, rfl, hb, hg, by first | exact Nat.zero_le _ | simp, hm, hs, by simp⟩⟩

theorem spCall_any (W Wc : World) (g P p q : Nat) (n m : Int) (a : Option Addr) (xs : List Int) (cap : Nat) (ac : Option Addr) (cpc : Nat) (hn : -9223372036854775808 ≤ n ∧ n ≤ 9223372036854775807) (hm : -9223372036854775808 ≤ m ∧ m ≤ 9223372036854775807) (hB : Box3 W p (.int .i64 n) (.int .i64 m) (.slice a xs.length cap)) (hq : W.cell? ⟨q, 0, none⟩ = some (.slice ac (ecL n m xs).length cpc)) (hqw : q < W.heap.size) (hx : Rd W a xs) (hy : Rd W ac (ecL n m xs)) (hG : spG n m xs (P : Int) = true) (hW : Below W.heap.size W Wc) (hO : OwnI Wc W.heap.size (.slice (some ⟨g, 0, none⟩) 0 (ecL n m xs).length) []) :
    Calls Try.prog 83 #[.int .i64 ((ecL n m xs).length : Int), .int .i64 (P : Int), .slice (some ⟨g, 0, none⟩) 0 (ecL n m xs).length, .func (.func 84) #[] #[.pointer (some ⟨p, 0, none⟩), .pointer (some ⟨q, 0, none⟩)]] Wc fun e w' => ∃ a' cap', e = .returned (.tuple #[.slice a' (spV n m xs P).length cap', .bool (spB n m xs P)]) ∧ OwnI w' W.heap.size (.slice a' (spV n m xs P).length cap') (spV n m xs P) ∧ Below W.heap.size W w' := by
  have h4 : P ≤ 4 := by simp only [spG, Bool.and_eq_true, decide_eq_true_eq] at hG; omega
  have hE : spO n m xs P = cnS (fitB n m xs) P (ecL n m xs).length [] := by rw [spO, if_pos hG, Int.toNat_natCast]
  refine (cn_any W W.heap.size g (ecL n m xs).length 84 #[.pointer (some ⟨p, 0, none⟩), .pointer (some ⟨q, 0, none⟩)] (fitB n m xs) P (ecL n m xs).length (by omega) (ecL_36 _ _ _) (Nat.le_refl _) (Nat.le_refl _) Try.call84 ?_ (ecL n m xs).length [] Wc (by simp) (fun i hi => by simp at hi) hW hO).mono ?_
  · intro l g' cap' w' h0 hl _ hb ho
    exact spFit_any p q n m a xs cap ac cpc _ l cap' w' hn hm (hB.below hb) ((hb.cell (p := ⟨q, 0, none⟩) hqw).trans hq) (Nat.lt_of_lt_of_le hB.1 hb.size) (Nat.lt_of_lt_of_le hqw hb.size) (hx.below hb) (hy.below hb) ho.rd h0 hl
  · rintro e w' ⟨hb, ⟨ys, hy, hl, rfl, ho⟩ | ⟨hy, rfl, ho⟩⟩
    · rw [← hE] at hy
      refine ⟨some ⟨g, 0, none⟩, (ecL n m xs).length, ?_, ?_, hb⟩
      · rw [spV, spB, hy, ← hl]; rfl
      · rw [spV, hy, Option.getD_some, hl]; exact ho
    · rw [← hE] at hy
      refine ⟨none, 0, ?_, ?_, hb⟩
      · rw [spV, spB, hy]; rfl
      · rw [spV, hy]; exact OwnI.nil _ _

set_option maxRecDepth 100000 in
theorem iSplit_any (n m : Int) (a : Option Addr) (xs : List Int) (cap : Nat) (p : Int) (w : World) (hn : -9223372036854775808 ≤ n ∧ n ≤ 9223372036854775807) (hm : -9223372036854775808 ≤ m ∧ m ≤ 9223372036854775807) (hx : Rd w a xs) (_hp : -9223372036854775808 ≤ p ∧ p ≤ 9223372036854775807) :
    Calls Try.prog 49 #[.agg #[.int .i64 n, .int .i64 m, .slice a xs.length cap], .int .i64 p] w fun e w' => ∃ a' cap', e = .returned (.tuple #[.slice a' (spV n m xs p).length cap', .bool (spB n m xs p)]) ∧ OwnI w' w.heap.size (.slice a' (spV n m xs p).length cap') (spV n m xs p) ∧ Below w.heap.size w w' := by
  have hb0 : Below w.heap.size w (w.alloc (.cells #[.int .i64 n, .int .i64 m, .slice a xs.length cap] 27)) := (by repeat (first | exact Below.refl _ _ | assumption | refine Below.alloc ?_ (by first | exact Nat.le_refl _ | (simp only [World.size_alloc, World.size_setCell, World.size_drew]; omega) | omega) _ | refine Below.setCell ?_ (by first | exact Nat.le_refl _ | (simp only [World.size_alloc, World.size_setCell, World.size_drew]; omega) | omega) _ | refine Below.drew ?_))
  have A0 := Box3.new w (.int .i64 n) (.int .i64 m) (.slice a xs.length cap) 27
  cases hr : spG n m xs p
  · have H1 : Hid (spV n m xs p = []) := by simp [Hid, spV, spO, hr]
    have H2 : Hid (spB n m xs p = false) := by simp [Hid, spB, spO, hr]
    cases ht : tabB n m xs
    · have HT := Lib.hid ht
      clear hr ht
      rw [H1.out, H2.out]
      go_enter Try.func49, Try.ntmps49
      go_wp2_with fail
      refine (iEmpty_any _ _ _ _ _ _ hn hm (hx.below hb0)).mono ?_
      rw [HT.out]
      rintro e w1 ⟨a1, c1, rfl, ho1, hb1⟩
      have b1 := hb0.trans (hb1.mono (by simp))
      have hs1 := b1.size
      clear hb1
      go_wp2_with fail
      refine bodyPost_ret (v := .tuple #[.slice none 0 0, .bool false]) (by simp [results, Try.results49, go_sem]) rfl ?_
      exact ⟨none, 0, rfl, OwnI.nil _ _, b1.alloc hs1 _⟩
    · have HT := Lib.hid ht
      have hc : ¬ ((ecL n m xs).length : Int) ≤ 9 ∨ ¬ 1 ≤ p ∨ ¬ p ≤ 4 := by
        rw [spG, ht, Bool.true_and, Bool.and_eq_false_iff, Bool.and_eq_false_iff] at hr
        simp only [decide_eq_false_iff_not] at hr
        omega
      obtain ⟨cs, hcs⟩ : ∃ cs, cs = ecL n m xs := ⟨_, rfl⟩
      have HC := Lib.hid (iEmpty_any n m a xs cap _ hn hm (hx.below hb0))
      rw [← hcs] at HC hc
      clear hr ht hcs
      have hlt : cs.length < 10 ∨ 10 ≤ cs.length := by omega
      have h3 : ((9 : Int) < (cs.length : Int)) ∨ ((cs.length : Int) ≤ 9 ∧ p < 1) ∨ ((cs.length : Int) ≤ 9 ∧ 1 ≤ p ∧ 4 < p) := by omega
      clear hc hlt
      rw [H1.out, H2.out]
      rcases h3 with h3 | ⟨h3, h4⟩ | ⟨h3, h4, h5⟩
      all_goals
        go_enter Try.func49, Try.ntmps49
        go_wp2_with fail
        refine HC.out.mono ?_
        rw [HT.out]
        rintro e w1 ⟨a1, c1, rfl, ho1, hb1⟩
        have b1 := hb0.trans (hb1.mono (by simp))
        have hs1 := b1.size
        clear hb1
        go_wp2_with fail
        refine bodyPost_ret (v := .tuple #[.slice none 0 0, .bool false]) (by simp [results, Try.results49, go_sem]) rfl ?_
        exact ⟨none, 0, rfl, OwnI.nil _ _, b1.alloc hs1 _⟩
  · have hG := hr
    simp only [spG, Bool.and_eq_true, decide_eq_true_eq] at hG
    obtain ⟨⟨⟨ht, h9⟩, h1⟩, h4⟩ := hG
    obtain ⟨P, rfl⟩ := Int.eq_ofNat_of_zero_le (show 0 ≤ p by omega)
    have HT := Lib.hid ht
    have HC := Lib.hid (iEmpty_any n m a xs cap _ hn hm (hx.below hb0))
    have HG := Lib.hid hr
    have HCC := Lib.hid (fun (W Wc : World) (g p q : Nat) (ac : Option Addr) (cpc : Nat) => spCall_any W Wc g P p q n m a xs cap ac cpc hn hm)
    obtain ⟨cs, hcs⟩ : ∃ cs, cs = ecL n m xs := ⟨_, rfl⟩
    rw [← hcs] at HC HCC h9
    clear hr ht hcs
    have h9i : (cs.length : Int) ≤ 9 := by omega
    have hmk := make_room cs.length (by omega)
    have hown := fun W => own_room W W.heap.size cs.length (by omega) (Nat.le_refl _)
    have HOW := Lib.hid hown
    clear hown
    go_enter Try.func49, Try.ntmps49
    go_wp2_with fail
    refine HC.out.mono ?_
    rw [HT.out]
    rintro e w1 ⟨a1, c1, rfl, ho1, hb1⟩
    have b1 := hb0.trans (hb1.mono (by simp))
    have hs1 := b1.size
    have A1 := (A0.below hb1).alloc (.cells #[.slice a1 cs.length c1] 22)
    have O1 := (ho1.alloc (.cells #[.slice a1 cs.length c1] 22)).rd
    have b2 := b1.alloc hs1 (.cells #[.slice a1 cs.length c1] 22)
    have hW1 : Below (w1.alloc (.cells #[.slice a1 cs.length c1] 22)).heap.size (w1.alloc (.cells #[.slice a1 cs.length c1] 22)) ((w1.alloc (.cells #[.slice a1 cs.length c1] 22)).alloc (.cells (madeZ cs.length) 3)).drew := ((Below.refl _ _).alloc (Nat.le_refl _) _).drew
    have hO1 : OwnI ((w1.alloc (.cells #[.slice a1 cs.length c1] 22)).alloc (.cells (madeZ cs.length) 3)).drew (w1.alloc (.cells #[.slice a1 cs.length c1] 22)).heap.size (.slice (some ⟨w1.heap.size + 1, 0, none⟩) 0 cs.length) [] := by
      have h := (HOW.out (w1.alloc (.cells #[.slice a1 cs.length c1] 22))).below (Below.refl _ _).drew (Nat.le_refl _)
      rw [World.size_alloc] at h ⊢
      exact h
    have HQ : Hid ((w1.alloc (.cells #[.slice a1 cs.length c1] 22)).cell? ⟨w1.heap.size, 0, none⟩ = some (.slice a1 cs.length c1)) := by simp [Hid]
    have HC2 := Lib.hid (HCC.out (w1.alloc (.cells #[.slice a1 cs.length c1] 22)) _ (w1.heap.size + 1) w.heap.size w1.heap.size a1 c1 A1 (by simp) (by simp) (hx.below b2) O1 HG.out hW1 hO1)
    clear hb1 ho1 A0 A1 O1 hW1 hO1
    go_wp2_with fail
    go_region_held3 (fun w' => w'.cell? ⟨w1.heap.size, 0, none⟩ = some (.slice a1 cs.length c1))
      (first | exact q3 | go_keep)
      (first | (go_at_call 83; refine HC2.out.mono ?_; rintro e w3 ⟨a3, c3, rfl, ho3, hb3⟩; have q3 := (hb3.cell (p := ⟨w1.heap.size, 0, none⟩) (by simp)).trans HQ.out))
    all_goals
      go_wp2_with fail
      refine bodyPost_ret (v := .tuple #[.slice a3 (spV n m xs P).length c3, .bool (spB n m xs P)]) (by simp [results, Try.results49, go_sem]) rfl ?_
      exact ⟨a3, c3, rfl, ho3.mono b2.size, b2.trans (hb3.mono b2.size)⟩

theorem markIntS_any (a : Option Addr) (xs : List Int) (cap : Nat) (k : Int) (B : Nat) (w : World) (h0 : 0 ≤ k) (h1 : k ≤ 1099511627776) (hn : xs.length ≤ 1048576) (ho : OwnI w B (.slice a xs.length cap) xs) :
    Calls Try.prog 24 #[.slice a xs.length cap, .int .i64 k] w fun e w' => e = .returned (.int .i64 (k + xs.length)) ∧ OwnI w' B (.slice a xs.length cap) (marks k xs.length) ∧ w.grownBy w' (Value.slice a xs.length cap).ownBlock := by
  go_enter Try.func24, Try.ntmps24
  go_wp2_with fail
  go_loopw [1, 5] (fun k' i wr => ∃ j : Nat, j ≤ xs.length ∧ i = .int .i64 j ∧ k' = .int .i64 (k + j) ∧ wr.ownsRow B 3 1 (.slice a xs.length cap) xs.length ((marks k j ++ xs.drop j).map (Value.int .i64)) ∧ w.grownBy wr (Value.slice a xs.length cap).ownBlock) (fun _ i _ => xs.length - (intOf i).toNat)
  case atStart => exact ⟨0, Nat.zero_le _, rfl, by simp, by (have e : marks k 0 ++ xs.drop 0 = xs := by simp [marks]); rw [e]; exact ho, World.grownBy.refl _ _⟩
  case round =>
    obtain ⟨j, hj, rfl, rfl, hown, hg⟩ := hrel
    by_cases hlt : j < xs.length
    · obtain ⟨g, rfl⟩ : ∃ g, a = some ⟨g, 0, none⟩ := by
        rcases hown.2 with ⟨e, h⟩ | ⟨g, c, cur, e, _⟩
        · omega
        · simp only [Value.slice.injEq] at e
          exact ⟨g, e.1⟩
      have hst := World.ownsRow.stored hown j (.int .i64 (k + j))
      rw [mark_step k xs j hlt] at hst
      have hcc := World.ownsRow.cellAt hown j (by omega)
      have hfr := World.ownsRow.frozenAt hown j
      have hcc' : ∃ u, wr.cell? ⟨g, j, none⟩ = some u := by
        rw [hcc]
        exact ⟨_, List.getElem?_eq_getElem (by simp [marks_len]; omega)⟩
      obtain ⟨u, hu⟩ := hcc'
      have Hst := Lib.hid hst
      have Hg := Lib.hid (grown_trans hg hst.2)
      clear hst hcc hown hg
      go_wp2
      go_roundw
      case rel => exact ⟨j + 1, by omega, by go_num, by go_num, Hst.out.1, Hg.out⟩
      case measure => simp [intOf]; omega
    · obtain rfl : j = xs.length := by omega
      go_wp2
      go_ret
      refine ⟨rfl, ?_, hg⟩
      have e : marks k xs.length ++ xs.drop xs.length = marks k xs.length := by simp
      rw [e] at hown
      show World.ownsRow _ _ _ _ _ _ _
      rw [marks_len]
      exact hown

theorem markTable_any (n m : Int) (a : Option Addr) (xs : List Int) (cap : Nat) (k : Int) (B : Nat) (w : World) (h0 : 0 ≤ k) (h1 : k ≤ 1099511627776) (hn : xs.length ≤ 1048576) (ho : OwnI w B (.slice a xs.length cap) xs) :
    Calls Try.prog 23 #[.agg #[.int .i64 n, .int .i64 m, .slice a xs.length cap], .int .i64 k] w fun e w' => e = .returned (.int .i64 (k + xs.length)) ∧ OwnI w' B (.slice a xs.length cap) (marks k xs.length) ∧ w.grownBy w' (Value.slice a xs.length cap).ownBlock := by
  go_enter Try.func23, Try.ntmps23
  go_wp2_with fail
  refine (markIntS_any _ _ _ _ B _ h0 h1 hn (ho.alloc _)).mono ?_
  rintro e w1 ⟨rfl, ho1, hg1⟩
  go_wp2_with fail
  go_ret
  exact ⟨rfl, ho1, grown_alloc_set hg1⟩

theorem heldIntS_any (a : Option Addr) (n cap : Nat) (k : Int) (w : World) (h0 : 0 ≤ k) (h1 : k ≤ 1099511627776) (hn : n ≤ 1048576) (hx : Rd w a (marks k n)) :
    Calls Try.prog 25 #[.slice a n cap, .int .i64 k] w fun e w' => e = .returned (.int .i64 (k + n)) ∧ Below w.heap.size w w' := by
  go_enter Try.func25, Try.ntmps25
  go_wp2_with fail
  go_loop [1, 5] (fun k' i => ∃ j : Nat, j ≤ n ∧ i = .int .i64 j ∧ k' = .int .i64 (k + j)) (fun _ i => n - (intOf i).toNat)
  case atStart => exact ⟨0, Nat.zero_le _, rfl, by simp⟩
  case round =>
    obtain ⟨j, hj, rfl, rfl⟩ := hrel
    by_cases hlt : j < n
    · obtain ⟨b, off, rfl, hbl, hc⟩ := hx.cell j (by rw [marks_len]; exact hlt)
      rw [marks_nth hlt] at hc
      go_wp2_with fail
      go_round
      case rel => exact ⟨j + 1, by omega, by go_num, by go_num⟩
      case measure => simp [intOf]; omega
    · obtain rfl : j = n := by omega
      go_wp2_with fail
      go_ret
      exact ⟨rfl, (by repeat (first | exact Below.refl _ _ | assumption | refine Below.alloc ?_ (by first | exact Nat.le_refl _ | (simp only [World.size_alloc, World.size_setCell, World.size_drew]; omega) | omega) _ | refine Below.setCell ?_ (by first | exact Nat.le_refl _ | (simp only [World.size_alloc, World.size_setCell, World.size_drew]; omega) | omega) _ | refine Below.drew ?_))⟩

theorem walk (n0 m0 : Int) (a0 : Option Addr) (xs0 : List Int) (cap0 : Nat) (i1 : Int) (w : World) (hn0 : -9223372036854775808 ≤ n0 ∧ n0 ≤ 9223372036854775807) (hm0 : -9223372036854775808 ≤ m0 ∧ m0 ≤ 9223372036854775807) (hx0 : Rd w a0 xs0) (hi1 : -9223372036854775808 ≤ i1 ∧ i1 ≤ 9223372036854775807) :
    Calls Try.prog 13 #[.agg #[.int .i64 n0, .int .i64 m0, .slice a0 xs0.length cap0], .int .i64 i1] w fun e w' => e = .returned (.bool true) ∧ Below w.heap.size w w' := by
  have hR0 : (spV n0 m0 xs0 i1).length ≤ 1048576 := spV_len n0 m0 xs0 i1
  by_cases hs0 : 1048576 < (xs0.length : Int)
  · go_enter Try.func13, Try.ntmps13
    go_wp2_with fail
    refine (szTable_no (by omega) (by omega) (by omega) hx0.len).mono ?_
    rintro e w1 ⟨rfl, hb1⟩
    have bw1 : Below w.heap.size w w1 := Below.trans (by repeat (first | exact Below.refl _ _ | assumption | refine Below.alloc ?_ (by first | exact Nat.le_refl _ | (simp only [World.size_alloc, World.size_setCell, World.size_drew]; omega) | omega) _ | refine Below.setCell ?_ (by first | exact Nat.le_refl _ | (simp only [World.size_alloc, World.size_setCell, World.size_drew]; omega) | omega) _ | refine Below.drew ?_)) (hb1.mono (by first | (simp only [World.size_alloc, World.size_setCell, World.size_drew]; omega) | omega))
    have A0_1 : Box3 w1 w.heap.size (.int .i64 n0) (.int .i64 m0) (.slice a0 xs0.length cap0) := ⟨by have := hb1.size; simp at this; omega, (hb1.cell (p := ⟨w.heap.size, 0, none⟩) (by simp <;> omega)).trans (by simp), (hb1.cell (p := ⟨w.heap.size, 1, none⟩) (by simp <;> omega)).trans (by simp), (hb1.cell (p := ⟨w.heap.size, 2, none⟩) (by simp <;> omega)).trans (by simp)⟩
    have ⟨zA0_1, cA0_1, dA0_1, eA0_1⟩ := A0_1
    go_wp2_with fail
    go_ret
    exact ⟨rfl, bw1⟩
  go_enter Try.func13, Try.ntmps13
  go_wp2_with fail
  refine (szTable_ok (by omega) (by omega)).mono ?_
  rintro e w1 ⟨rfl, hb⟩
  have bw1 : Below w.heap.size w w1 := Below.trans (by repeat (first | exact Below.refl _ _ | assumption | refine Below.alloc ?_ (by first | exact Nat.le_refl _ | (simp only [World.size_alloc, World.size_setCell, World.size_drew]; omega) | omega) _ | refine Below.setCell ?_ (by first | exact Nat.le_refl _ | (simp only [World.size_alloc, World.size_setCell, World.size_drew]; omega) | omega) _ | refine Below.drew ?_)) (hb.mono (by first | (simp only [World.size_alloc, World.size_setCell, World.size_drew]; omega) | omega))
  have z1 : w.heap.size ≤ w1.heap.size := bw1.size
  have A0_1 : Box3 w1 w.heap.size (.int .i64 n0) (.int .i64 m0) (.slice a0 xs0.length cap0) := ⟨by have := hb.size; simp at this; omega, (hb.cell (p := ⟨w.heap.size, 0, none⟩) (by simp <;> omega)).trans (by simp), (hb.cell (p := ⟨w.heap.size, 1, none⟩) (by simp <;> omega)).trans (by simp), (hb.cell (p := ⟨w.heap.size, 2, none⟩) (by simp <;> omega)).trans (by simp)⟩
  have ⟨zA0_1, cA0_1, dA0_1, eA0_1⟩ := A0_1
  clear hb
  go_wp2_with fail
  refine (toTable_any _ _ _ _ _ _ (hx0.below bw1) (by omega)).mono ?_
  rintro e w2 ⟨pT0, qT0, rfl, ho, hb⟩
  have ht : Below w1.heap.size w1 w2 := hb
  have z2 : w1.heap.size ≤ w2.heap.size := ht.size
  have bw2 : Below w.heap.size w w2 := bw1.trans (ht.mono bw1.size)
  have A0_2 := A0_1.below ht
  have ⟨zA0_2, cA0_2, dA0_2, eA0_2⟩ := A0_2
  clear A0_1 cA0_1 dA0_1 eA0_1
  have T0_2 := ho
  have UT0 := T0_2.cut (Nat.le_refl _)
  clear ho
  clear ht hb
  go_wp2_with fail
  refine (sSplit_any _ _ _ _ _ _ _ hn0 hm0 (T0_2.rd) hi1).mono ?_
  rintro e w3 ⟨pR0, qR0, rfl, ho0, hb⟩
  have ht : Below w2.heap.size w2 w3 := hb
  have z3 : w2.heap.size ≤ w3.heap.size := ht.size
  have bw3 : Below w.heap.size w w3 := bw2.trans (ht.mono bw2.size)
  have A0_3 := A0_2.below ht
  have ⟨zA0_3, cA0_3, dA0_3, eA0_3⟩ := A0_3
  have T0_3 := T0_2.below ht (Nat.le_refl _)
  clear A0_2 cA0_2 dA0_2 eA0_2 T0_2
  have R0_3 := ho0
  have UR0 := R0_3.cut (Nat.le_refl _)
  clear ho0
  clear ht hb
  go_wp2_with fail
  clear T0_3 UT0
  refine (toTable_any _ _ _ _ _ _ (hx0.below bw3) (by omega)).mono ?_
  rintro e w4 ⟨pX0, qX0, rfl, ho, hb⟩
  have ht : Below w3.heap.size w3 w4 := hb
  have z4 : w3.heap.size ≤ w4.heap.size := ht.size
  have bw4 : Below w.heap.size w w4 := bw3.trans (ht.mono bw3.size)
  have A0_4 := A0_3.below ht
  have ⟨zA0_4, cA0_4, dA0_4, eA0_4⟩ := A0_4
  have R0_4 := R0_3.below ht (Nat.le_refl _)
  clear A0_3 cA0_3 dA0_3 eA0_3 R0_3
  have X0_4 := ho
  have UX0 := X0_4.cut (Nat.le_refl _)
  clear ho
  clear ht hb
  go_wp2_with fail
  refine (iSplit_any _ _ _ _ _ _ _ hn0 hm0 (X0_4.rd.below (by repeat (first | exact Below.refl _ _ | assumption | refine Below.alloc ?_ (by first | exact Nat.le_refl _ | (simp only [World.size_alloc, World.size_setCell, World.size_drew]; omega) | omega) _ | refine Below.setCell ?_ (by first | exact Nat.le_refl _ | (simp only [World.size_alloc, World.size_setCell, World.size_drew]; omega) | omega) _ | refine Below.drew ?_))) hi1).mono ?_
  rintro e w5 ⟨pG0, qG0, rfl, ho0, hb⟩
  have ht : Below w4.heap.size w4 w5 := Below.trans (by repeat (first | exact Below.refl _ _ | assumption | refine Below.alloc ?_ (by first | exact Nat.le_refl _ | (simp only [World.size_alloc, World.size_setCell, World.size_drew]; omega) | omega) _ | refine Below.setCell ?_ (by first | exact Nat.le_refl _ | (simp only [World.size_alloc, World.size_setCell, World.size_drew]; omega) | omega) _ | refine Below.drew ?_)) (hb.mono (by first | (simp only [World.size_alloc, World.size_setCell, World.size_drew]; omega) | omega))
  have z5 : w4.heap.size ≤ w5.heap.size := ht.size
  have bw5 : Below w.heap.size w w5 := bw4.trans (ht.mono bw4.size)
  have A0_5 := A0_4.below ht
  have BX0_5 : Box3 w5 w4.heap.size (.int .i64 n0) (.int .i64 m0) (.slice pX0 xs0.length qX0) := (Box3.new w4 _ _ _ 27).below hb
  have ⟨zA0_5, cA0_5, dA0_5, eA0_5⟩ := A0_5
  have ⟨zBX0_5, cBX0_5, dBX0_5, eBX0_5⟩ := BX0_5
  have R0_5 := R0_4.below ht (Nat.le_refl _)
  have X0_5 := X0_4.below ht (Nat.le_refl _)
  clear A0_4 cA0_4 dA0_4 eA0_4 R0_4 X0_4
  have G0_5 := ho0
  have UG0 := G0_5.cut (Nat.le_refl _); simp only [World.size_alloc] at UG0
  clear ho0
  clear ht hb
  go_wp2_with fail
  refine (eqIntS_any _ _ (spV n0 m0 xs0 i1) (spV n0 m0 xs0 i1) _ _ _ (G0_5.rd) (R0_5.rd)).mono ?_
  rw [eqL_self]
  rintro e w6 ⟨rfl, hb⟩
  have ht : Below w5.heap.size w5 w6 := hb
  have z6 : w5.heap.size ≤ w6.heap.size := ht.size
  have bw6 : Below w.heap.size w w6 := bw5.trans (ht.mono bw5.size)
  have A0_6 := A0_5.below ht
  have BX0_6 := BX0_5.below ht
  have ⟨zA0_6, cA0_6, dA0_6, eA0_6⟩ := A0_6
  have ⟨zBX0_6, cBX0_6, dBX0_6, eBX0_6⟩ := BX0_6
  have R0_6 := R0_5.below ht (Nat.le_refl _)
  have X0_6 := X0_5.below ht (Nat.le_refl _)
  have G0_6 := G0_5.below ht (Nat.le_refl _)
  clear A0_5 cA0_5 dA0_5 eA0_5 BX0_5 cBX0_5 dBX0_5 eBX0_5 R0_5 X0_5 G0_5
  clear ht hb
  go_wp2_with fail
  go_region_held3 (fun w' => w'.cell? ⟨w.heap.size, 0, none⟩ = some (.int .i64 n0) ∧ w'.cell? ⟨w.heap.size, 1, none⟩ = some (.int .i64 m0) ∧ w'.cell? ⟨w.heap.size, 2, none⟩ = some (.slice a0 xs0.length cap0) ∧ w'.cell? ⟨w4.heap.size, 0, none⟩ = some (.int .i64 n0) ∧ w'.cell? ⟨w4.heap.size, 1, none⟩ = some (.int .i64 m0) ∧ w'.cell? ⟨w4.heap.size, 2, none⟩ = some (.slice pX0 xs0.length qX0))
    (first | exact ⟨P8.2.1, P8.2.2.1, P8.2.2.2, Q8.2.1, Q8.2.2.1, Q8.2.2.2⟩ | exact ⟨P7.2.1, P7.2.2.1, P7.2.2.2, Q7.2.1, Q7.2.2.1, Q7.2.2.2⟩ | go_keep)
    (first | (go_at_call 17; refine (toTable_any _ _ _ _ _ _ (hx0.below (bw6.trans (Joins.below_draws _ _ _))) (by omega)).mono ?_; rintro e w7 ⟨a7', cap7', rfl, ho7, hb7⟩; have ht7 : Below w6.heap.size w6 w7 := (Joins.below_draws _ _ _).trans hb7; have P7 := A0_6.below ht7; have Q7 := BX0_6.below ht7) | (go_at_call 19; refine (eqTable_same _ _ _ _ xs0 _ _ _ (X0_6.rd.below ht7) ho7.rd).mono ?_; rintro e w8 ⟨rfl, hb8⟩; have P8 := P7.below hb8; have Q8 := Q7.below hb8))
  have ht : Below w6.heap.size w6 w8 := ht7.trans (hb8.mono ht7.size)
  have z8 : w6.heap.size ≤ w8.heap.size := ht.size
  have bw8 : Below w.heap.size w w8 := bw6.trans (ht.mono bw6.size)
  clear P7 Q7 P8 Q8 ho7
  have A0_8 := A0_6.below ht
  have BX0_8 := BX0_6.below ht
  have ⟨zA0_8, cA0_8, dA0_8, eA0_8⟩ := A0_8
  have ⟨zBX0_8, cBX0_8, dBX0_8, eBX0_8⟩ := BX0_8
  have R0_8 := R0_6.below ht (Nat.le_refl _)
  have X0_8 := X0_6.below ht (Nat.le_refl _)
  have G0_8 := G0_6.below ht (Nat.le_refl _)
  clear A0_6 cA0_6 dA0_6 eA0_6 BX0_6 cBX0_6 dBX0_6 eBX0_6 R0_6 X0_6 G0_6
  clear ht hb8 ht7 hb7
  go_wp2_with fail
  refine (markTable_any _ _ _ _ _ _ _ _ (by omega) (by omega) (by omega) X0_8).mono ?_
  rintro e w9 ⟨rfl, ho, hg⟩
  have z9 : w8.heap.size ≤ w9.heap.size := hg.size
  have bw9 : Below w.heap.size w w9 := bw8.trans (below_of_grown hg (fun b e => by have := UX0 b e; omega) (by omega))
  have A0_9 := A0_8.kept hg (ne_own (fun c e => by have := UX0 c e; omega))
  have ⟨zA0_9, cA0_9, dA0_9, eA0_9⟩ := A0_9
  have BX0_9 := BX0_8.kept hg (ne_own (fun c e => by have := UX0 c e; omega))
  have ⟨zBX0_9, cBX0_9, dBX0_9, eBX0_9⟩ := BX0_9
  have R0_9 := R0_8.kept hg (own_ne (fun c e e2 => by have h1 := UR0 c e; have h2 := UX0 c e2; omega))
  have G0_9 := G0_8.kept hg (own_ne (fun c e e2 => by have h1 := UG0 c e; have h2 := UX0 c e2; omega))
  clear A0_8 cA0_8 dA0_8 eA0_8 BX0_8 cBX0_8 dBX0_8 eBX0_8 R0_8 X0_8 G0_8 hg
  have X0_9 := ho
  clear ho
  go_wp2_with fail
  refine (eqIntS_any _ _ (spV n0 m0 xs0 i1) (spV n0 m0 xs0 i1) _ _ _ (G0_9.rd) (R0_9.rd)).mono ?_
  rw [eqL_self]
  rintro e w10 ⟨rfl, hb⟩
  have ht : Below w9.heap.size w9 w10 := hb
  have z10 : w9.heap.size ≤ w10.heap.size := ht.size
  have bw10 : Below w.heap.size w w10 := bw9.trans (ht.mono bw9.size)
  have A0_10 := A0_9.below ht
  have BX0_10 := BX0_9.below ht
  have ⟨zA0_10, cA0_10, dA0_10, eA0_10⟩ := A0_10
  have ⟨zBX0_10, cBX0_10, dBX0_10, eBX0_10⟩ := BX0_10
  have R0_10 := R0_9.below ht (Nat.le_refl _)
  have X0_10 := X0_9.below ht (Nat.le_refl _)
  have G0_10 := G0_9.below ht (Nat.le_refl _)
  clear A0_9 cA0_9 dA0_9 eA0_9 BX0_9 cBX0_9 dBX0_9 eBX0_9 R0_9 X0_9 G0_9
  clear ht hb
  go_wp2_with fail
  refine (markIntS_any _ _ _ _ _ _ (by omega) (by omega) hR0 G0_10).mono ?_
  rintro e w11 ⟨rfl, ho, hg⟩
  have z11 : w10.heap.size ≤ w11.heap.size := hg.size
  have bw11 : Below w.heap.size w w11 := bw10.trans (below_of_grown hg (fun b e => by have := UG0 b e; omega) (by omega))
  have A0_11 := A0_10.kept hg (ne_own (fun c e => by have := UG0 c e; omega))
  have ⟨zA0_11, cA0_11, dA0_11, eA0_11⟩ := A0_11
  have BX0_11 := BX0_10.kept hg (ne_own (fun c e => by have := UG0 c e; omega))
  have ⟨zBX0_11, cBX0_11, dBX0_11, eBX0_11⟩ := BX0_11
  have R0_11 := R0_10.kept hg (own_ne (fun c e e2 => by have h1 := UR0 c e; have h2 := UG0 c e2; omega))
  have X0_11 := X0_10.kept hg (own_ne (fun c e e2 => by have h1 := UX0 c e; have h2 := UG0 c e2; omega))
  clear A0_10 cA0_10 dA0_10 eA0_10 BX0_10 cBX0_10 dBX0_10 eBX0_10 R0_10 X0_10 G0_10 hg
  have G0_11 := ho
  clear ho
  go_wp2_with fail
  refine (heldIntS_any _ _ _ _ _ (by omega) (by omega) hR0 G0_11.rd).mono ?_
  rintro e w12 ⟨rfl, hb⟩
  have ht : Below w11.heap.size w11 w12 := hb
  have z12 : w11.heap.size ≤ w12.heap.size := ht.size
  have bw12 : Below w.heap.size w w12 := bw11.trans (ht.mono bw11.size)
  have A0_12 := A0_11.below ht
  have BX0_12 := BX0_11.below ht
  have ⟨zA0_12, cA0_12, dA0_12, eA0_12⟩ := A0_12
  have ⟨zBX0_12, cBX0_12, dBX0_12, eBX0_12⟩ := BX0_12
  have R0_12 := R0_11.below ht (Nat.le_refl _)
  have X0_12 := X0_11.below ht (Nat.le_refl _)
  have G0_12 := G0_11.below ht (Nat.le_refl _)
  clear A0_11 cA0_11 dA0_11 eA0_11 BX0_11 cBX0_11 dBX0_11 eBX0_11 R0_11 X0_11 G0_11
  clear ht hb
  go_wp2_with fail
  clear X0_12 UX0
  refine (toTable_any _ _ _ _ _ _ (hx0.below bw12) (by omega)).mono ?_
  rintro e w13 ⟨pV0, qV0, rfl, ho, hb⟩
  have ht : Below w12.heap.size w12 w13 := hb
  have z13 : w12.heap.size ≤ w13.heap.size := ht.size
  have bw13 : Below w.heap.size w w13 := bw12.trans (ht.mono bw12.size)
  have A0_13 := A0_12.below ht
  have BX0_13 := BX0_12.below ht
  have ⟨zA0_13, cA0_13, dA0_13, eA0_13⟩ := A0_13
  have ⟨zBX0_13, cBX0_13, dBX0_13, eBX0_13⟩ := BX0_13
  have R0_13 := R0_12.below ht (Nat.le_refl _)
  have G0_13 := G0_12.below ht (Nat.le_refl _)
  clear A0_12 cA0_12 dA0_12 eA0_12 BX0_12 cBX0_12 dBX0_12 eBX0_12 R0_12 G0_12
  have V0_13 := ho
  have UV0 := V0_13.cut (Nat.le_refl _)
  clear ho
  clear ht hb
  go_wp2_with fail
  refine (iSplit_any _ _ _ _ _ _ _ hn0 hm0 (V0_13.rd) hi1).mono ?_
  rintro e w14 ⟨pH0, qH0, rfl, ho0, hb⟩
  have ht : Below w13.heap.size w13 w14 := hb
  have z14 : w13.heap.size ≤ w14.heap.size := ht.size
  have bw14 : Below w.heap.size w w14 := bw13.trans (ht.mono bw13.size)
  have A0_14 := A0_13.below ht
  have BX0_14 := BX0_13.below ht
  have ⟨zA0_14, cA0_14, dA0_14, eA0_14⟩ := A0_14
  have ⟨zBX0_14, cBX0_14, dBX0_14, eBX0_14⟩ := BX0_14
  have R0_14 := R0_13.below ht (Nat.le_refl _)
  have G0_14 := G0_13.below ht (Nat.le_refl _)
  have V0_14 := V0_13.below ht (Nat.le_refl _)
  clear A0_13 cA0_13 dA0_13 eA0_13 BX0_13 cBX0_13 dBX0_13 eBX0_13 R0_13 G0_13 V0_13
  have H0_14 := ho0
  have UH0 := H0_14.cut (Nat.le_refl _)
  clear ho0
  clear ht hb
  go_wp2_with fail
  clear V0_14 UV0
  refine (eqIntS_any _ _ (spV n0 m0 xs0 i1) (spV n0 m0 xs0 i1) _ _ _ (H0_14.rd) (R0_14.rd)).mono ?_
  rw [eqL_self]
  rintro e w15 ⟨rfl, hb⟩
  have ht : Below w14.heap.size w14 w15 := hb
  have z15 : w14.heap.size ≤ w15.heap.size := ht.size
  have bw15 : Below w.heap.size w w15 := bw14.trans (ht.mono bw14.size)
  have A0_15 := A0_14.below ht
  have BX0_15 := BX0_14.below ht
  have ⟨zA0_15, cA0_15, dA0_15, eA0_15⟩ := A0_15
  have ⟨zBX0_15, cBX0_15, dBX0_15, eBX0_15⟩ := BX0_15
  have R0_15 := R0_14.below ht (Nat.le_refl _)
  have G0_15 := G0_14.below ht (Nat.le_refl _)
  have H0_15 := H0_14.below ht (Nat.le_refl _)
  clear A0_14 cA0_14 dA0_14 eA0_14 BX0_14 cBX0_14 dBX0_14 eBX0_14 R0_14 G0_14 H0_14
  clear ht hb
  go_wp2_with fail
  refine (heldIntS_any _ _ _ _ _ (by omega) (by omega) hR0 G0_15.rd).mono ?_
  rintro e w16 ⟨rfl, hb⟩
  have ht : Below w15.heap.size w15 w16 := hb
  have z16 : w15.heap.size ≤ w16.heap.size := ht.size
  have bw16 : Below w.heap.size w w16 := bw15.trans (ht.mono bw15.size)
  have A0_16 := A0_15.below ht
  have BX0_16 := BX0_15.below ht
  have ⟨zA0_16, cA0_16, dA0_16, eA0_16⟩ := A0_16
  have ⟨zBX0_16, cBX0_16, dBX0_16, eBX0_16⟩ := BX0_16
  have R0_16 := R0_15.below ht (Nat.le_refl _)
  have G0_16 := G0_15.below ht (Nat.le_refl _)
  have H0_16 := H0_15.below ht (Nat.le_refl _)
  clear A0_15 cA0_15 dA0_15 eA0_15 BX0_15 cBX0_15 dBX0_15 eBX0_15 R0_15 G0_15 H0_15
  clear ht hb
  go_wp2_with fail
  go_ret
  exact ⟨rfl, bw16⟩

theorem rd_of_trod {H : Type} {enc : TypeId × Value → H} {W : World} {fuel : Nat} {c : Value} {y : DataW H × List MemPlace}
    (h : DataW.trod enc Try.prog W 0 (fun _ => true) true fuel 22 [c] = some y) : ∃ (a : Option Addr) (xs : List Int) (cap : Nat), c = .slice a xs.length cap ∧ Rd W a xs ∧ ∀ k, k < xs.length → (Lit.int .i64 (nth xs k)).wf = true := by
  rcases Go.ChangeShapes.open_ints Try.underlying22 Try.underlying3 (by kernel_rfl) h with ⟨hcs, _⟩ | ⟨x, len, cap, zs, hcs, _, hl, hm, hz, _, hcell, hwf⟩
  · simp only [List.cons.injEq, and_true] at hcs
    exact ⟨none, [], 0, hcs, ⟨by simp, fun k hk => by simp at hk⟩, fun k hk => by simp at hk⟩
  · simp only [List.cons.injEq, and_true] at hcs
    simp only [if_true] at hz
    have hlen : (zs.take len).length = len := by rw [List.length_take]; omega
    have hn : ∀ k, k < len → nth (zs.take len) k = zs.getD k 0 := by
      intro k hk
      simp only [nth, List.getD_eq_getElem?_getD, List.getElem?_take, hk, if_true]
    refine ⟨some x, zs.take len, cap, by rw [hlen]; exact hcs, ⟨by rw [hlen]; unfold maxLen at hm; omega, fun k hk => ?_⟩, fun k hk => ?_⟩
    · rw [hlen] at hk
      obtain ⟨b, off, sp⟩ := x
      have h0 := hcell 0 (by omega)
      have hsp : sp = none := by simpa [Addr.add] using World.cell?_spot h0
      subst hsp
      have hk' := hcell k (by omega)
      rw [Addr.add_lit] at hk'
      exact ⟨b, off, rfl, World.block_lt_of_cell? _ _ h0, by rw [hk', hn k hk]⟩
    · rw [hlen] at hk
      rw [hn k hk]
      have hk2 : k < zs.length := by omega
      exact hwf _ (by rw [List.getD_eq_getElem?_getD, List.getElem?_eq_getElem hk2]; exact List.getElem_mem hk2)

theorem own : ownKnob Try.prog.godebug = none := by kernel_rfl
theorem laidOut : laidOutB Try.prog = true := by kernel_rfl
theorem wf_bd {n : Int} (h : (Lit.int .i64 n).wf = true) : -9223372036854775808 ≤ n ∧ n ≤ 9223372036854775807 := by
  simp [Lit.wf, IntKind.min, IntKind.max, IntKind.bits, IntKind.signed] at h
  omega

theorem cellsT : Try.prog.cellsOf 24 = 3 := by kernel_rfl

open Go.ChangeShapes Go.WideShapes Go.ChangeAt Go.RowKit in
set_option maxRecDepth 100000 in
theorem lifted (os : Os) (started : os.Started) (H : Type) (enc : TypeId × Value → H) :
    ReturnsInHanded {} Try.checked os 13 .any (Rows.fnExactSplitCellsSpec.pre6 enc Try.prog Try.f13 Rows.fnExactSplitCellsRow.domain false) (Rows.fnExactSplitCellsSpec.post enc Try.prog Try.f13 false true false false) := by
  refine returnsInHanded_of_change (C := Try.checked) own started (by kernel_rfl) Try.func13
    (ChangeSpec.witness6 (enc := enc) (C := Try.checked) false ⟨#[], #[.agg #[.int .i64 0, .int .i64 0, .slice none 0 0], .int .i64 0], []⟩ 8 (by kernel_rfl) (by kernel_rfl) (by kernel_rfl) (by kernel_rfl)) ?_
  intro W base args ds gs before hval0 hW hcnd _
  have hval : ∀ (j : Nat) t v, Try.f13.params[j]? = some t → args[j]? = some v → Value.okWide Try.prog W .any base t v := hval0
  have hW' := hW
  obtain ⟨p, q, hA0, hV, rfl, hfz, hnd⟩ := hW
  have hA : DataW.TrodAll enc Try.prog W 0 (fun _ => true) true Try.f13.params.toList args.toList ds p := hA0
  rw [Try.params13] at hA hval
  obtain ⟨v0, vs0, d0, ds0, p0, q0, hargs, rfl, rfl, h0, r0⟩ := trodAll_cons hA
  obtain ⟨v1, vs1, d1, ds1, p1, q1, rfl, rfl, rfl, h1, r1⟩ := trodAll_cons r0
  obtain ⟨rfl, rfl, rfl⟩ := trodAll_nil r1
  obtain rfl : args = #[v0, v1] := by cases args; simp_all
  obtain ⟨rfl, rfl⟩ := trodVars_none hV
  have lt0 : ∀ x ∈ p0, x.block < W.heap.size := by obtain ⟨m, hm⟩ := h0; exact DataW.trod_lt m _ _ _ hm
  have lt1 : ∀ x ∈ p1, x.block < W.heap.size := by obtain ⟨m, hm⟩ := h1; exact DataW.trod_lt m _ _ _ hm
  obtain ⟨c00, c01, c02, y00, y01, y02, m0, rfl, hd0, hp0, hy00, hy01, hy02⟩ := Go.Joins.open_agg3 Try.underlying24 (by kernel_rfl) cellsT (hval 0 24 v0 rfl rfl) h0
  obtain ⟨n0, e00, _, wf0⟩ := DataW.trod_int Try.underlying3 hy00
  obtain ⟨m0', e01, _, wg0⟩ := DataW.trod_int Try.underlying3 hy01
  simp only [List.cons.injEq, and_true] at e00 e01
  subst e00 e01
  obtain ⟨a0, xs0, cap0, rfl, rd0, wl0⟩ := rd_of_trod hy02
  obtain ⟨i1, rfl, hd1, hp1, wf1⟩ := open_int Try.underlying3 (hval 1 3 v1 rfl rfl) h1
  clear hA0 hval0
  refine (walk n0 m0' a0 xs0 cap0 i1 W (wf_bd wf0) (wf_bd wg0) rd0 (wf_bd wf1)).mono fun e W' ⟨he, bel⟩ => ?_
  subst he
  exact ⟨_, rfl, _, _, _, [], _, [], hW', trodAll_mk1 (shut_bool Try.underlying4 _), (trodAll_cons_mk (Below.trod laidOut (by kernel_rfl) (of_decide_eq_true (by kernel_rfl)) h0 bel lt0) (trodAll_cons_mk (Below.trod laidOut (by kernel_rfl) (of_decide_eq_true (by kernel_rfl)) h1 bel lt1) trodAll_mk0)), rfl, bel.frame _, fun h => by cases h⟩
theorem proved : Rows.FnExactSplitCellsSaid :=
  OpenClaim.holds_of_wide 13 Try.f13 rfl rfl rfl rfl rfl rfl rfl ⟨rfl, rfl, rfl, rfl, rfl⟩ rfl rfl rfl rfl rfl (by kernel_rfl) Try.func13 (by kernel_rfl)
    (of_decide_eq_true (by kernel_rfl)) (by unfold Func.isWrapper; first | (rw [if_pos (by decide +kernel)]; kernel_rfl) | (rw [if_neg (by decide +kernel)]; exact ⟨rfl, rfl⟩))
    (fun os started H enc _ => lifted os started H enc)

end Go.Proofs.Ytkfgeccgcffgaaa.splitCells
