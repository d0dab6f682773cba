/- PROVED: the law FnExactParseMatching returns true for every input, and each of its arguments reads afterwards as before. No conditions. -/
import Derived.Test.YtlglcmblnipilaaRows
import Derived.WalkKit
import Derived.WalkSpells
import Derived.WalkLawsBesides
import Derived.Deep.QuietTactic
import Derived.BigQuiet
import Derived.ProofKit
import Derived.OpenShut
import Derived.ShutString
import Derived.ChangeOld
import Derived.Below
import Derived.Lib.SmallJoins
import Derived.Lib.Hide
import Derived.Maps.AppendAt
import Derived.Deep.AppendLies
import Derived.Laws.RangeString
import Derived.Laws.IdiomStrings
import Derived.Laws.Cover4
import Derived.Deep.RegionHeld3
import Derived.Test.YtlglcmblnipilaaParseMatchingP1
namespace Go.Proofs.Ytlglcmblnipilaa.parseMatching
open Go Go.RowKit
set_option linter.unusedVariables false
set_option linter.unusedSimpArgs false
set_option maxHeartbeats 400000
set_option maxRecDepth 100000 in
theorem iPrM_any (s : ByteArray) (w : World) (hs : s.size ≤ 1048576) :
    Calls Try.prog 10 #[.string s] w (GotI w (pmL s) (pmB s)) := by
  obtain ⟨i0, hi, hz0, hz1, hz2⟩ := info_parts infoInt
  by_cases h24 : s.size ≤ 24
  · have HB : Hid (pmB s = (mcB (ipL s) && decide (stxV (ipL s) = s))) := by
      rw [Hid, pmB, decide_eq_true h24, Bool.true_and]
      have h := pm_eq (s := s)
      cases h1 : (mcB (spL s) && decide (stxV (spL s) = s)) <;> cases h2 : (mcB (ipL s) && decide (stxV (ipL s) = s)) <;> simp_all
    have HSAME : Hid (mcB (ipL s) = true → stxV (ipL s) = s → ipL s = spL s) := fun h1 h2 => pm_same ⟨h1, h2⟩
    obtain ⟨cap, W1, hcv, bW1, hrW⟩ := runes_world s w h24
    have HIP : Hid (ipL s = ipT (rnS s s.size 0) (rnS s s.size 0).length) := rfl
    have hm24 := rnS_len s s.size 0
    have HLEN := Lib.hid (ipT_len (rnS s s.size 0))
    have HST : Hid (∀ T, ipT (rnS s s.size 0) (T+1) = ((ipT (rnS s s.size 0) T).set T (fiX (rnS s s.size 0) T)).set (fiX (rnS s s.size 0) T) (T : Int)) := fun T => rfl
    have H0 : Hid (ipT (rnS s s.size 0) 0 = List.replicate (rnS s s.size 0).length 0) := rfl
    obtain ⟨rs, hrs⟩ : ∃ rs, rs = rnS s s.size 0 := ⟨_, rfl⟩
    rw [← hrs] at hcv hrW HIP hm24 HLEN HST H0
    obtain ⟨m, hm⟩ : ∃ m, m = rs.length := ⟨_, rfl⟩
    rw [← hm] at hcv hm24 HIP H0
    have HM := Lib.hid hm
    obtain ⟨b, hb0⟩ : ∃ b, b = w.heap.size := ⟨_, rfl⟩
    have HB0 := Lib.hid hb0
    rw [← hb0] at hcv hrW
    have hm24' : m ≤ 24 := by omega
    clear hrs hm hb0
    go_enter Try.func10, Try.ntmps10
    go_wp2_with (at_make; refine wpList_make_full _ rfl (.tmp 17) (.tmp 17) 22 rfl W1.heap.size 3 i0 (.int .i64 0) 1 Try.underlying22 hi hz0 hz1 .i64 .i64 _ _ m rfl rfl rfl rfl (by rw [hz2]; omega) (by unfold maxLen; omega) (Nat.le_refl _) ?_; intro w1 hown hgrow)
    have b01 : Below W1.heap.size W1 w1 := (Below.refl _ _).grown hgrow (Nat.le_refl _) (fun k h => by cases h)
    have hown0 := made_row (fun _ => (0 : Int)) hown
    have e0 : rowF (fun _ => (0 : Int)) m 0 = ipT rs 0 := by
      rw [H0.out]
      simp [rowF, fmap]
    rw [e0] at hown0
    obtain ⟨g, hg⟩ : ∃ g, g = W1.heap.size := ⟨_, rfl⟩
    have hgz : W1.heap.size ≤ g := by omega
    rw [← hg]
    have hown1 : OwnI w1 W1.heap.size (.slice (some ⟨g, 0, none⟩) m m) (ipT rs 0) := by rw [hg]; exact hown0
    have hzW := bW1.size
    clear hown hgrow hown0 hg e0 hcv
    go_wp2_with fail
    go_loopw [21] (fun i wr => ∃ T : Nat, T ≤ m ∧ i = .int .i64 T ∧ OwnI wr W1.heap.size (.slice (some ⟨g, 0, none⟩) m m) (ipT rs T) ∧ Below W1.heap.size W1 wr) (fun i _ => m - (intOf i).toNat)
    case atStart => exact ⟨0, Nat.zero_le _, rfl, hown1, b01⟩
    case round =>
      clear hown1 b01
      obtain ⟨T, hT, rfl, ho, hb⟩ := hrel
      have hbs := hb.size
      have hll := HLEN.out T
      rw [← HM.out] at hll
      by_cases hlt : T < m
      · have hrr := hrW.below hb
        have hc := hrr.2 T (by rw [← HM.out]; exact hlt)
        have hbb := hrr.1
        have HC := Lib.hid (idxR_any b m cap T rs wr hrr HM.out hm24' hlt)
        have hfl := fiX_le (rs := rs) (T := T)
        have HS := Lib.hid (HST.out T)
        have ⟨c1, f1⟩ := ho.at' hll.symm (i := T) (by omega)
        have ⟨c2, f2⟩ := ho.at' hll.symm (i := fiX rs T) (by omega)
        have hp1 := (ho.put hll.symm T (fiX rs T : Int)).1
        have hl1 : ((ipT rs T).set T (fiX rs T : Int)).length = m := by rw [List.length_set]; exact hll
        have ⟨c3, f3⟩ := hp1.at' hl1.symm (i := fiX rs T) (by omega)
        have hp2 := (hp1.put hl1.symm (fiX rs T) (T : Int)).1
        rw [← HS.out] at hp2
        have b2 := (hb.setCell (p := ⟨g, T, none⟩) hgz (.int .i64 (fiX rs T : Int))).setCell (p := ⟨g, fiX rs T, none⟩) hgz (.int .i64 (T : Int))
        have HF := Lib.hid (And.intro hp2 b2)
        obtain ⟨o, ho'⟩ : ∃ o, o = fiX rs T := ⟨_, rfl⟩
        rw [← ho'] at HC c2 f2 HF hfl
        have o1 : (o : Int) < (m : Int) := by omega
        clear ho' ho hp1 hp2 hl1 c3 f3 b2 hll hrr
        by_cases hoT : o = T
        · subst hoT
          clear c2 f2
          go_wp2_with fail
          refine HC.out.mono ?_
          rintro e w2 ⟨rfl, rfl⟩
          go_wp2_with fail
          go_roundw
          case rel => exact ⟨o + 1, by omega, by go_num, HF.out.1, HF.out.2⟩
          case measure => simp [intOf]; omega
        · have hTo : ¬ T = o := fun h => hoT h.symm
          go_wp2_with fail
          refine HC.out.mono ?_
          rintro e w2 ⟨rfl, rfl⟩
          go_wp2_with fail
          go_roundw
          case rel => exact ⟨T + 1, by omega, by go_num, HF.out.1, HF.out.2⟩
          case measure => simp [intOf]; omega
      · obtain rfl : T = m := by omega
        have hr := ho.rd
        rw [← HIP.out] at ho hr hll
        have bw := bW1.trans (hb.mono hzW)
        have HG : Hid (∀ W, Rd W (some ⟨g, 0, none⟩) (ipL s) → Calls Try.prog 7 #[.slice (some ⟨g, 0, none⟩) T T] W fun e w' => e = .returned (.tuple #[.string (stxV (ipL s)), .bool (mcB (ipL s))]) ∧ Below W.heap.size W w') := fun W h => by
          have := iMtTxt_any (some ⟨g, 0, none⟩) (ipL s) T W h
          rw [hll] at this; exact this
        obtain ⟨X, hX⟩ : ∃ X, X = stxV (ipL s) := ⟨_, rfl⟩
        rw [← hX] at HG HB HSAME
        cases hmc : mcB (ipL s)
        · have HPB : Hid (pmB s = false) := by rw [Hid, HB.out, hmc, Bool.false_and]
          have HPL : Hid (pmL s = []) := by rw [Hid, pmL, HPB.out]; rfl
          rw [hmc] at HG
          clear hmc hX
          go_wp2_with fail
          refine (HG.out _ hr).mono ?_
          rintro e w3 ⟨rfl, hb3⟩
          go_wp2_with fail
          refine bodyPost_ret (v := .tuple #[.slice none 0 0, .bool false]) (by simp [results, Try.results10, go_sem]) rfl ?_
          exact gotI_no HPL.out HPB.out (bw.trans (hb3.mono bw.size))
        · rw [hmc] at HG
          have HPQ : Hid (pmB s = decide (X = s)) := by rw [Hid, HB.out, hmc, Bool.true_and]
          have HS2 : Hid (X = s → ipL s = spL s) := fun h => HSAME.out hmc h
          clear hmc hX HB HSAME
          by_cases hxs : X = s
          · have HPB : Hid (pmB s = true) := by rw [Hid, HPQ.out]; simp [hxs]
            have HPL : Hid (pmL s = ipL s) := by rw [Hid, pmL, HPB.out, HS2.out hxs]; rfl
            subst hxs
            go_wp2_with fail
            refine (HG.out _ hr).mono ?_
            rintro e w3 ⟨rfl, hb3⟩
            have ho3 := ho.below hb3 (Nat.le_refl _)
            go_wp2_with fail
            refine bodyPost_ret (v := .tuple #[.slice (some ⟨g, 0, none⟩) T T, .bool true]) (by simp [results, Try.results10, go_sem]) rfl ?_
            exact ⟨_, T, by rw [HPB.out, HPL.out, hll], by rw [HPL.out, hll]; exact ho3.mono hzW, bw.trans (hb3.mono bw.size)⟩
          · have HPB : Hid (pmB s = false) := by rw [Hid, HPQ.out]; simp [hxs]
            have HPL : Hid (pmL s = []) := by rw [Hid, pmL, HPB.out]; rfl
            have q1 : (X.toList == s.toList) = false := by
              rw [Lib.toList_data, Lib.toList_data, beq_eq_false_iff_ne]
              intro h
              apply hxs
              apply ByteArray.ext
              exact Array.toList_inj.1 h
            have q2 : (X.toList != s.toList) = true := by rw [bne, q1]; rfl
            clear hxs
            go_wp2_with fail
            refine (HG.out _ hr).mono ?_
            rintro e w3 ⟨rfl, hb3⟩
            go_wp2_with fail
            refine bodyPost_ret (v := .tuple #[.slice none 0 0, .bool false]) (by simp [results, Try.results10, go_sem]) rfl ?_
            exact gotI_no HPL.out HPB.out (bw.trans (hb3.mono bw.size))
  · have HB : Hid (pmB s = false) := by rw [Hid, pmB, decide_eq_false h24, Bool.false_and]
    have HL : Hid (pmL s = []) := by rw [Hid, pmL, HB.out]; rfl
    go_enter Try.func10, Try.ntmps10
    go_wp2_with fail
    refine bodyPost_ret (v := .tuple #[.slice none 0 0, .bool false]) (by simp [results, Try.results10, go_sem]) rfl ?_
    exact gotI_no HL.out HB.out (Below.refl _ _)

theorem markIntS_any (a : Option Addr) (xs : List Int) (cap : Nat) (k : Int) (B : Nat) (w : World) (h0 : 0 ≤ k) (h1 : k ≤ 1099511627776) (hn : xs.length ≤ 1048576) (ho : OwnI w B (.slice a xs.length cap) xs) :
    Calls Try.prog 11 #[.slice a xs.length cap, .int .i64 k] w fun e w' => e = .returned (.int .i64 (k + xs.length)) ∧ OwnI w' B (.slice a xs.length cap) (marks k xs.length) ∧ w.grownBy w' (Value.slice a xs.length cap).ownBlock := by
  go_enter Try.func11, Try.ntmps11
  go_wp2_with fail
  go_loopw [1, 5] (fun k' i wr => ∃ j : Nat, j ≤ xs.length ∧ i = .int .i64 j ∧ k' = .int .i64 (k + j) ∧ wr.ownsRow B 3 1 (.slice a xs.length cap) xs.length ((marks k j ++ xs.drop j).map (Value.int .i64)) ∧ w.grownBy wr (Value.slice a xs.length cap).ownBlock) (fun _ i _ => xs.length - (intOf i).toNat)
  case atStart => exact ⟨0, Nat.zero_le _, rfl, by simp, by (have e : marks k 0 ++ xs.drop 0 = xs := by simp [marks]); rw [e]; exact ho, World.grownBy.refl _ _⟩
  case round =>
    obtain ⟨j, hj, rfl, rfl, hown, hg⟩ := hrel
    by_cases hlt : j < xs.length
    · obtain ⟨g, rfl⟩ : ∃ g, a = some ⟨g, 0, none⟩ := by
        rcases hown.2 with ⟨e, h⟩ | ⟨g, c, cur, e, _⟩
        · omega
        · simp only [Value.slice.injEq] at e
          exact ⟨g, e.1⟩
      have hst := World.ownsRow.stored hown j (.int .i64 (k + j))
      rw [mark_step k xs j hlt] at hst
      have hcc := World.ownsRow.cellAt hown j (by omega)
      have hfr := World.ownsRow.frozenAt hown j
      have hcc' : ∃ u, wr.cell? ⟨g, j, none⟩ = some u := by
        rw [hcc]
        exact ⟨_, List.getElem?_eq_getElem (by simp [marks_len]; omega)⟩
      obtain ⟨u, hu⟩ := hcc'
      have Hst := Lib.hid hst
      have Hg := Lib.hid (grown_trans hg hst.2)
      clear hst hcc hown hg
      go_wp2
      go_roundw
      case rel => exact ⟨j + 1, by omega, by go_num, by go_num, Hst.out.1, Hg.out⟩
      case measure => simp [intOf]; omega
    · obtain rfl : j = xs.length := by omega
      go_wp2
      go_ret
      refine ⟨rfl, ?_, hg⟩
      have e : marks k xs.length ++ xs.drop xs.length = marks k xs.length := by simp
      rw [e] at hown
      show World.ownsRow _ _ _ _ _ _ _
      rw [marks_len]
      exact hown

def eqL (xs ys : List Int) : Bool := decide (xs = ys)
theorem eqIntS_any (a b : Option Addr) (xs ys : List Int) (ca cb : Nat) (w : World) (hx : Rd w a xs) (hy : Rd w b ys) :
    Calls Try.prog 8 #[.slice a xs.length ca, .slice b ys.length cb] w fun e w' => e = .returned (.bool (eqL xs ys)) ∧ Below w.heap.size w w' := by
  have hlx := hx.len
  have hly := hy.len
  by_cases hl : xs.length = ys.length
  · have hl' : ((xs.length : Int) != (ys.length : Int)) = false := by simp [hl]
    go_enter Try.func8, Try.ntmps8
    have HL := Lib.hid hl
    clear hl
    go_wp2_with fail
    go_loopw [5] (fun i wr => ∃ k : Nat, k ≤ xs.length ∧ i = .int .i64 k ∧ xs.take k = ys.take k ∧ Below w.heap.size w wr) (fun i _ => xs.length - (intOf i).toNat)
    case atStart => exact ⟨0, Nat.zero_le _, rfl, rfl, Below.refl _ _⟩
    case round =>
      obtain ⟨k, hk, rfl, htk, hb⟩ := hrel
      have HT := Lib.hid htk
      clear htk
      by_cases hlt : k < xs.length
      · have hlt' : k < ys.length := by rw [← HL.out]; exact hlt
        obtain ⟨b1, o1, rfl, hb1, hc1⟩ := (hx.below hb).cell k hlt
        obtain ⟨b2, o2, rfl, hb2, hc2⟩ := (hy.below hb).cell k hlt'
        by_cases he : nth xs k = nth ys k
        · have he' : (nth xs k != nth ys k) = false := by simp [he]
          have HE := Lib.hid he
          clear he
          go_wp2_with fail
          go_quiet (fail)
          go_wp2_with fail
          go_roundw
          case rel =>
            refine ⟨k + 1, by omega, by go_num, ?_, by exact hb.trans (Joins.below_draws _ _ _)⟩
            rw [List.take_succ_eq_append_getElem hlt, List.take_succ_eq_append_getElem hlt', HT.out, ← nth_get, ← nth_get, HE.out]
          case measure => simp [intOf]; omega
        · have he' : (nth xs k != nth ys k) = true := by simp [he]
          have hne : eqL xs ys = false := by
            simp only [eqL, decide_eq_false_iff_not]
            intro e
            subst e
            exact he rfl
          have HN := Lib.hid hne
          clear he hne
          go_wp2_with fail
          go_quiet (fail)
          go_wp2_with fail
          go_ret
          exact ⟨ret_bool HN.out.symm, hb.trans (Joins.below_draws _ _ _)⟩
      · go_wp2_with fail
        go_ret
        refine ⟨ret_bool ?_, hb⟩
        have h1 := HT.out
        rw [List.take_of_length_le (by omega), List.take_of_length_le (by rw [← HL.out]; omega)] at h1
        simp [eqL, h1]
  · have hl' : ((xs.length : Int) != (ys.length : Int)) = true := by simp; omega
    have hne : eqL xs ys = false := by
      simp only [eqL, decide_eq_false_iff_not]
      intro e
      exact hl (by rw [e])
    have HN := Lib.hid hne
    clear hl hne
    go_enter Try.func8, Try.ntmps8
    go_wp2_with fail
    go_ret
    exact ⟨ret_bool HN.out.symm, Below.refl _ _⟩
theorem eqL_self (xs : List Int) : eqL xs xs = true := by simp [eqL]

theorem heldIntS_any (a : Option Addr) (n cap : Nat) (k : Int) (w : World) (h0 : 0 ≤ k) (h1 : k ≤ 1099511627776) (hn : n ≤ 1048576) (hx : Rd w a (marks k n)) :
    Calls Try.prog 12 #[.slice a n cap, .int .i64 k] w fun e w' => e = .returned (.int .i64 (k + n)) ∧ Below w.heap.size w w' := by
  go_enter Try.func12, Try.ntmps12
  go_wp2_with fail
  go_loop [1, 5] (fun k' i => ∃ j : Nat, j ≤ n ∧ i = .int .i64 j ∧ k' = .int .i64 (k + j)) (fun _ i => n - (intOf i).toNat)
  case atStart => exact ⟨0, Nat.zero_le _, rfl, by simp⟩
  case round =>
    obtain ⟨j, hj, rfl, rfl⟩ := hrel
    by_cases hlt : j < n
    · obtain ⟨b, off, rfl, hbl, hc⟩ := hx.cell j (by rw [marks_len]; exact hlt)
      rw [marks_nth hlt] at hc
      go_wp2_with fail
      go_round
      case rel => exact ⟨j + 1, by omega, by go_num, by go_num⟩
      case measure => simp [intOf]; omega
    · obtain rfl : j = n := by omega
      go_wp2_with fail
      go_ret
      exact ⟨rfl, (by repeat (first | exact Below.refl _ _ | assumption | refine Below.alloc ?_ (by first | exact Nat.le_refl _ | (simp only [World.size_alloc, World.size_setCell, World.size_drew]; omega) | omega) _ | refine Below.setCell ?_ (by first | exact Nat.le_refl _ | (simp only [World.size_alloc, World.size_setCell, World.size_drew]; omega) | omega) _ | refine Below.drew ?_))⟩

theorem walk (s0 : ByteArray) (w : World)  :
    Calls Try.prog 4 #[.string s0] w fun e w' => e = .returned (.bool true) ∧ Below w.heap.size w w' := by
  have hR0 : (pmL s0).length ≤ 1048576 := pmL_len s0
  by_cases hs0 : 1048576 < (s0.size : Int)
  · go_enter Try.func4, Try.ntmps4
    go_wp2_with fail
    go_ret
    exact ⟨rfl, (by repeat (first | exact Below.refl _ _ | assumption | refine Below.alloc ?_ (by first | exact Nat.le_refl _ | (simp only [World.size_alloc, World.size_setCell, World.size_drew]; omega) | omega) _ | refine Below.setCell ?_ (by first | exact Nat.le_refl _ | (simp only [World.size_alloc, World.size_setCell, World.size_drew]; omega) | omega) _ | refine Below.drew ?_))⟩
  go_enter Try.func4, Try.ntmps4
  go_wp2_with fail
  refine (sPrM_any _ _ (by omega)).mono ?_
  rintro e w1 ⟨pR0, qR0, rfl, ho0, hb⟩
  have ht : Below w.heap.size w w1 := Below.trans (by repeat (first | exact Below.refl _ _ | assumption | refine Below.alloc ?_ (by first | exact Nat.le_refl _ | (simp only [World.size_alloc, World.size_setCell, World.size_drew]; omega) | omega) _ | refine Below.setCell ?_ (by first | exact Nat.le_refl _ | (simp only [World.size_alloc, World.size_setCell, World.size_drew]; omega) | omega) _ | refine Below.drew ?_)) (hb.mono (by first | (simp only [World.size_alloc, World.size_setCell, World.size_drew]; omega) | omega))
  have z1 : w.heap.size ≤ w1.heap.size := ht.size
  have bw1 : Below w.heap.size w w1 := ht
  have R0_1 := ho0
  have UR0 := R0_1.cut (Nat.le_refl _)
  clear ho0
  clear ht hb
  go_wp2_with fail
  refine (iPrM_any _ _ (by omega)).mono ?_
  rintro e w2 ⟨pG0, qG0, rfl, ho0, hb⟩
  have ht : Below w1.heap.size w1 w2 := hb
  have z2 : w1.heap.size ≤ w2.heap.size := ht.size
  have bw2 : Below w.heap.size w w2 := bw1.trans (ht.mono bw1.size)
  have R0_2 := R0_1.below ht (Nat.le_refl _)
  clear R0_1
  have G0_2 := ho0
  have UG0 := G0_2.cut (Nat.le_refl _)
  clear ho0
  clear ht hb
  go_wp2_with fail
  refine (eqIntS_any _ _ (pmL s0) (pmL s0) _ _ _ (G0_2.rd) (R0_2.rd)).mono ?_
  rw [eqL_self]
  rintro e w3 ⟨rfl, hb⟩
  have ht : Below w2.heap.size w2 w3 := hb
  have z3 : w2.heap.size ≤ w3.heap.size := ht.size
  have bw3 : Below w.heap.size w w3 := bw2.trans (ht.mono bw2.size)
  have R0_3 := R0_2.below ht (Nat.le_refl _)
  have G0_3 := G0_2.below ht (Nat.le_refl _)
  clear R0_2 G0_2
  clear ht hb
  go_wp2_with fail
  refine (markIntS_any _ _ _ _ _ _ (by omega) (by omega) hR0 G0_3).mono ?_
  rintro e w4 ⟨rfl, ho, hg⟩
  have z4 : w3.heap.size ≤ w4.heap.size := hg.size
  have bw4 : Below w.heap.size w w4 := bw3.trans (below_of_grown hg (fun b e => by have := UG0 b e; omega) (by omega))
  have R0_4 := R0_3.kept hg (own_ne (fun c e e2 => by have h1 := UR0 c e; have h2 := UG0 c e2; omega))
  clear R0_3 G0_3 hg
  have G0_4 := ho
  clear ho
  go_wp2_with fail
  refine (heldIntS_any _ _ _ _ _ (by omega) (by omega) hR0 G0_4.rd).mono ?_
  rintro e w5 ⟨rfl, hb⟩
  have ht : Below w4.heap.size w4 w5 := hb
  have z5 : w4.heap.size ≤ w5.heap.size := ht.size
  have bw5 : Below w.heap.size w w5 := bw4.trans (ht.mono bw4.size)
  have R0_5 := R0_4.below ht (Nat.le_refl _)
  have G0_5 := G0_4.below ht (Nat.le_refl _)
  clear R0_4 G0_4
  clear ht hb
  go_wp2_with fail
  refine (iPrM_any _ _ (by omega)).mono ?_
  rintro e w6 ⟨pH0, qH0, rfl, ho0, hb⟩
  have ht : Below w5.heap.size w5 w6 := hb
  have z6 : w5.heap.size ≤ w6.heap.size := ht.size
  have bw6 : Below w.heap.size w w6 := bw5.trans (ht.mono bw5.size)
  have R0_6 := R0_5.below ht (Nat.le_refl _)
  have G0_6 := G0_5.below ht (Nat.le_refl _)
  clear R0_5 G0_5
  have H0_6 := ho0
  have UH0 := H0_6.cut (Nat.le_refl _)
  clear ho0
  clear ht hb
  go_wp2_with fail
  refine (eqIntS_any _ _ (pmL s0) (pmL s0) _ _ _ (H0_6.rd) (R0_6.rd)).mono ?_
  rw [eqL_self]
  rintro e w7 ⟨rfl, hb⟩
  have ht : Below w6.heap.size w6 w7 := hb
  have z7 : w6.heap.size ≤ w7.heap.size := ht.size
  have bw7 : Below w.heap.size w w7 := bw6.trans (ht.mono bw6.size)
  have R0_7 := R0_6.below ht (Nat.le_refl _)
  have G0_7 := G0_6.below ht (Nat.le_refl _)
  have H0_7 := H0_6.below ht (Nat.le_refl _)
  clear R0_6 G0_6 H0_6
  clear ht hb
  go_wp2_with fail
  refine (heldIntS_any _ _ _ _ _ (by omega) (by omega) hR0 G0_7.rd).mono ?_
  rintro e w8 ⟨rfl, hb⟩
  have ht : Below w7.heap.size w7 w8 := hb
  have z8 : w7.heap.size ≤ w8.heap.size := ht.size
  have bw8 : Below w.heap.size w w8 := bw7.trans (ht.mono bw7.size)
  have R0_8 := R0_7.below ht (Nat.le_refl _)
  have G0_8 := G0_7.below ht (Nat.le_refl _)
  have H0_8 := H0_7.below ht (Nat.le_refl _)
  clear R0_7 G0_7 H0_7
  clear ht hb
  go_wp2_with fail
  go_ret
  exact ⟨rfl, bw8⟩

theorem rd_of_trod {H : Type} {enc : TypeId × Value → H} {W : World} {fuel : Nat} {c : Value} {y : DataW H × List MemPlace}
    (h : DataW.trod enc Try.prog W 0 (fun _ => true) true fuel 22 [c] = some y) : ∃ (a : Option Addr) (xs : List Int) (cap : Nat), c = .slice a xs.length cap ∧ Rd W a xs ∧ ∀ k, k < xs.length → (Lit.int .i64 (nth xs k)).wf = true := by
  rcases Go.ChangeShapes.open_ints Try.underlying22 Try.underlying3 (by kernel_rfl) h with ⟨hcs, _⟩ | ⟨x, len, cap, zs, hcs, _, hl, hm, hz, _, hcell, hwf⟩
  · simp only [List.cons.injEq, and_true] at hcs
    exact ⟨none, [], 0, hcs, ⟨by simp, fun k hk => by simp at hk⟩, fun k hk => by simp at hk⟩
  · simp only [List.cons.injEq, and_true] at hcs
    simp only [if_true] at hz
    have hlen : (zs.take len).length = len := by rw [List.length_take]; omega
    have hn : ∀ k, k < len → nth (zs.take len) k = zs.getD k 0 := by
      intro k hk
      simp only [nth, List.getD_eq_getElem?_getD, List.getElem?_take, hk, if_true]
    refine ⟨some x, zs.take len, cap, by rw [hlen]; exact hcs, ⟨by rw [hlen]; unfold maxLen at hm; omega, fun k hk => ?_⟩, fun k hk => ?_⟩
    · rw [hlen] at hk
      obtain ⟨b, off, sp⟩ := x
      have h0 := hcell 0 (by omega)
      have hsp : sp = none := by simpa [Addr.add] using World.cell?_spot h0
      subst hsp
      have hk' := hcell k (by omega)
      rw [Addr.add_lit] at hk'
      exact ⟨b, off, rfl, World.block_lt_of_cell? _ _ h0, by rw [hk', hn k hk]⟩
    · rw [hlen] at hk
      rw [hn k hk]
      have hk2 : k < zs.length := by omega
      exact hwf _ (by rw [List.getD_eq_getElem?_getD, List.getElem?_eq_getElem hk2]; exact List.getElem_mem hk2)

theorem own : ownKnob Try.prog.godebug = none := by kernel_rfl
theorem laidOut : laidOutB Try.prog = true := by kernel_rfl
theorem wf_bd {n : Int} (h : (Lit.int .i64 n).wf = true) : -9223372036854775808 ≤ n ∧ n ≤ 9223372036854775807 := by
  simp [Lit.wf, IntKind.min, IntKind.max, IntKind.bits, IntKind.signed] at h
  omega

open Go.ChangeShapes Go.WideShapes Go.ChangeAt Go.RowKit in
set_option maxRecDepth 100000 in
theorem lifted (os : Os) (started : os.Started) (H : Type) (enc : TypeId × Value → H) :
    ReturnsInHanded {} Try.checked os 4 .any (Rows.fnExactParseMatchingSpec.pre6 enc Try.prog Try.f4 Rows.fnExactParseMatchingRow.domain false) (Rows.fnExactParseMatchingSpec.post enc Try.prog Try.f4 false true false false) := by
  refine returnsInHanded_of_change (C := Try.checked) own started (by kernel_rfl) Try.func4
    (ChangeSpec.witness6 (enc := enc) (C := Try.checked) false ⟨#[], #[.string ⟨#[]⟩], []⟩ 8 (by kernel_rfl) (by kernel_rfl) (by kernel_rfl) (by kernel_rfl)) ?_
  intro W base args ds gs before hval0 hW hcnd _
  have hval : ∀ (j : Nat) t v, Try.f4.params[j]? = some t → args[j]? = some v → Value.okWide Try.prog W .any base t v := hval0
  have hW' := hW
  obtain ⟨p, q, hA0, hV, rfl, hfz, hnd⟩ := hW
  have hA : DataW.TrodAll enc Try.prog W 0 (fun _ => true) true Try.f4.params.toList args.toList ds p := hA0
  rw [Try.params4] at hA hval
  obtain ⟨v0, vs0, d0, ds0, p0, q0, hargs, rfl, rfl, h0, r0⟩ := trodAll_cons hA
  obtain ⟨rfl, rfl, rfl⟩ := trodAll_nil r0
  obtain rfl : args = #[v0] := by cases args; simp_all
  obtain ⟨rfl, rfl⟩ := trodVars_none hV
  have lt0 : ∀ x ∈ p0, x.block < W.heap.size := by obtain ⟨m, hm⟩ := h0; exact DataW.trod_lt m _ _ _ hm
  obtain ⟨s0, rfl, rfl, rfl, ws0⟩ := Go.ChangeMaps.open_string Try.underlying9 (hval 0 9 v0 rfl rfl) h0
  clear hA0 hval0
  refine (walk s0 W ).mono fun e W' ⟨he, bel⟩ => ?_
  subst he
  exact ⟨_, rfl, _, _, _, [], _, [], hW', trodAll_mk1 (shut_bool Try.underlying4 _), (trodAll_cons_mk (Below.trod laidOut (by kernel_rfl) (of_decide_eq_true (by kernel_rfl)) h0 bel lt0) trodAll_mk0), rfl, bel.frame _, fun h => by cases h⟩
theorem proved : Rows.FnExactParseMatchingSaid :=
  OpenClaim.holds_of_wide 4 Try.f4 rfl rfl rfl rfl rfl rfl rfl ⟨rfl, rfl, rfl, rfl, rfl⟩ rfl rfl rfl rfl rfl (by kernel_rfl) Try.func4 (by kernel_rfl)
    (of_decide_eq_true (by kernel_rfl)) (by unfold Func.isWrapper; first | (rw [if_pos (by decide +kernel)]; kernel_rfl) | (rw [if_neg (by decide +kernel)]; exact ⟨rfl, rfl⟩))
    (fun os started H enc _ => lifted os started H enc)

end Go.Proofs.Ytlglcmblnipilaa.parseMatching
