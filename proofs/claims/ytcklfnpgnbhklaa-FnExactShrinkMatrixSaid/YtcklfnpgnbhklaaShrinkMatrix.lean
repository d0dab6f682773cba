/- PROVED: the law FnExactShrinkMatrix returns true for every input, and each of its arguments reads afterwards as before. No conditions. -/
import Derived.Test.YtcklfnpgnbhklaaRows
import Derived.WalkKit
import Derived.WalkSpells
import Derived.WalkLawsBesides
import Derived.Deep.QuietTactic
import Derived.BigQuiet
import Derived.ProofKit
import Derived.OpenShut
import Derived.ShutString
import Derived.ChangeOld
import Derived.Below
import Derived.Lib.SmallJoins
import Derived.Lib.Hide
import Derived.Deep.RegionHeld3
import Derived.Shelf.Slices.Reverse
import Derived.Shelf.Slices.Delete
import Derived.Shelf.Slices.Cells
import Derived.Sort.OwnSortedInts
import Derived.Deep.RegionLaw
import Derived.Lib.SliceRun
import Derived.Maps.AppendAt
import Derived.Deep.AppendLies
import Derived.Deep.Matrix
import Derived.Test.YtcklfnpgnbhklaaShrinkMatrixP1
namespace Go.Proofs.Ytcklfnpgnbhklaa.shrinkMatrix
open Go Go.RowKit
set_option linter.unusedVariables false
set_option linter.unusedSimpArgs false
set_option maxHeartbeats 400000
open Go.Shelf
theorem maColumn_any (a : Option Addr) (xss : List (List Int)) (cap : Nat) (j : Nat) (w : World) (hx : RdS w a xss) (h12 : xss.length ≤ 12) (hj : ∀ k, k < xss.length → j < (rowL xss k).length) :
    Calls Try.prog 47 #[.agg #[.slice a xss.length cap], .int .i64 (j : Int)] w fun e w' => ∃ a' cap', e = .returned (.slice a' xss.length cap') ∧ OwnI w' w.heap.size (.slice a' xss.length cap') (colL xss j) ∧ Below w.heap.size w w' := by
  have hlen := hx.len
  have HJ := Lib.hid hj
  clear hj
  go_enter Try.func47, Try.ntmps47
  go_wp2_with fail
  go_loopw [5, 11] (fun v i wr => ∃ k : Nat, k ≤ xss.length ∧ i = .int .i64 k ∧ OwnI wr w.heap.size v (fmap (fun i => atM xss i j) k) ∧ Below w.heap.size w wr) (fun _ i _ => xss.length - (intOf i).toNat)
  case atStart => exact ⟨0, Nat.zero_le _, rfl, OwnI.nil _ _, (by repeat (first | exact Below.refl _ _ | assumption | refine Below.alloc ?_ (by first | exact Nat.le_refl _ | (simp only [World.size_alloc, World.size_setCell, World.size_drew]; omega) | omega) _ | refine Below.setCell ?_ (by first | exact Nat.le_refl _ | (simp only [World.size_alloc, World.size_setCell, World.size_drew]; omega) | omega) _ | refine Below.drew ?_))⟩
  case round =>
    obtain ⟨k, hk, rfl, hown, hb⟩ := hrel
    have hbs := hb.size
    by_cases hlt : k < xss.length
    · obtain ⟨b, off, a', cap', rfl, hbl, hc, hr⟩ := (hx.below hb).row k hlt
      have h5 := HJ.out k hlt
      have k1 : (k : Int) < (xss.length : Int) := by omega
      obtain ⟨b2, off2, rfl, hbl2, hc2⟩ := hr.cell j h5
      have hrl := hr.len
      have j1 : (j : Int) < ((rowL xss k).length : Int) := by omega
      have HN : Hid (fmap (fun i => atM xss i j) (k+1) = fmap (fun i => atM xss i j) k ++ [nth (rowL xss k) j]) := fmap_succ _ _
      obtain ⟨ys, hys⟩ : ∃ ys, ys = fmap (fun i => atM xss i j) k := ⟨_, rfl⟩
      have hyl : ys.length = k := by rw [hys, fmap_len]
      rw [← hys] at hown HN
      clear hys
      go_wp2_with (at_builtin; refine push_at rfl _ _ rfl (z := nth (rowL xss k) j) rfl hown rfl (by omega) (by omega) ?_)
      intro v3 w3 o3 hg _
      have hU := hown.lt
      have b3 := hb.trans (below_of_grown hg (fun c e => (hU c e).1) hbs)
      clear hg hown
      go_wp2_with fail
      go_roundw
      case rel => exact ⟨k + 1, by omega, by go_num, by rw [HN.out]; exact o3, b3⟩
      case measure => simp [intOf]; omega
    · obtain rfl : k = xss.length := by omega
      have hfm := hown.form
      rw [fmap_len] at hfm
      obtain ⟨a', cap', rfl⟩ := hfm
      go_wp2_with fail
      go_ret
      exact ⟨a', cap', rfl, hown, hb⟩

theorem l1In_any (n lo hi : Int) (w : World) :
    Calls Try.prog 57 #[.int .i64 n, .int .i64 lo, .int .i64 hi] w fun e w' => e = .returned (.bool (inB n lo hi)) ∧ w = w' := by
  go_enter Try.func57, Try.ntmps57
  go_wp2
  all_goals (go_ret; exact ⟨ret_bool (by simp [inB]; try omega), rfl⟩)
theorem l1In_is {n lo hi : Int} {b : Bool} (h : inB n lo hi = b) (w : World) (m : Nat) :
    Calls Try.prog 57 #[.int .i64 n, .int .i64 lo, .int .i64 hi] (w.drewN m) fun e w' => e = .returned (.bool b) ∧ ∃ k, w' = w.drewN k :=
  Calls.quiet_of_same ((l1In_any n lo hi (w.drewN m)).mono (fun e w' hh => ⟨by rw [← h]; exact hh.1, hh.2.symm⟩))

theorem l1All_any (a : Option Addr) (xs : List Int) (cap : Nat) (lo hi : Int) (w : World) (hx : Rd w a xs) :
    Calls Try.prog 67 #[.slice a xs.length cap, .int .i64 lo, .int .i64 hi] w fun e w' => e = .returned (.bool (allB xs lo hi)) ∧ w = w' := by
  have hlen := hx.len
  go_enter Try.func67, Try.ntmps67
  go_wp2_with fail
  go_loop [11] (fun i => ∃ k : Nat, k ≤ xs.length ∧ i = .int .i64 k ∧ allB (xs.take k) lo hi = true) (fun i => xs.length - (intOf i).toNat)
  case atStart => exact ⟨0, Nat.zero_le _, rfl, rfl⟩
  case round =>
    obtain ⟨k, hk, rfl, hall⟩ := hrel
    by_cases hlt : k < xs.length
    · obtain ⟨b, off, rfl, hbl, hc⟩ := hx.cell k hlt
      cases hin : inB (nth xs k) lo hi
      · have hf := Lib.hid (allB_false hlt hin)
        go_wp2_with (go_at_call 57; refine (l1In_any _ _ _ _).mono ?_; rintro e w' ⟨rfl, rfl⟩)
        go_ret
        exact ⟨ret_bool hf.out.symm, rfl⟩
      · go_wp2_with (go_at_call 57; refine (l1In_any _ _ _ _).mono ?_; rintro e w' ⟨rfl, rfl⟩)
        go_round
        case rel => exact ⟨k + 1, by omega, by go_num, by rw [allB_take _ _ _ _ hlt, hall, hin]; rfl⟩
        case measure => simp [intOf]; omega
    · go_wp2_with fail
      go_ret
      exact ⟨ret_bool (by rw [← hall, List.take_of_length_le (by omega)]), rfl⟩
theorem l1All_is {a : Option Addr} {xs : List Int} {cap : Nat} {lo hi : Int} {b : Bool} {w : World} (hx : Rd w a xs) (h : allB xs lo hi = b) (m : Nat) :
    Calls Try.prog 67 #[.slice a xs.length cap, .int .i64 lo, .int .i64 hi] (w.drewN m) fun e w' => e = .returned (.bool b) ∧ ∃ k, w' = w.drewN k :=
  Calls.quiet_of_same ((l1All_any a xs cap lo hi (w.drewN m) (hx.below (Joins.below_draws _ _ _))).mono (fun e w' hh => ⟨by rw [← h]; exact hh.1, hh.2.symm⟩))

def maxI (a b : Int) : Int := if b < a then a else b
theorem l1Most_any (a b : Int) (w : World) : Calls Try.prog 86 #[.int .i64 a, .int .i64 b] w fun e w' => e = .returned (.int .i64 (maxI a b)) ∧ w = w' := by
  by_cases h : b < a
  · have H : Hid (maxI a b = a) := by rw [Hid, maxI, if_pos h]
    go_enter Try.func86, Try.ntmps86
    go_wp2
    go_ret
    exact ⟨ret_int H.out.symm, rfl⟩
  · have H : Hid (maxI a b = b) := by rw [Hid, maxI, if_neg h]
    go_enter Try.func86, Try.ntmps86
    go_wp2
    go_ret
    exact ⟨ret_int H.out.symm, rfl⟩

theorem mostTo_succ (l : List Int) (k : Nat) : maxI (mostTo l k) (nth l k) = mostTo l (k+1) := rfl
theorem ivMost_any (a : Option Addr) (l : List Int) (cap : Nat) (w : World) (hx : Rd w a l) :
    Calls Try.prog 68 #[.slice a l.length cap] w fun e w' => e = .returned (.int .i64 (mostTo l l.length)) ∧ w = w' := by
  have hlen := hx.len
  go_enter Try.func68, Try.ntmps68
  go_wp2_with fail
  go_loop [3, 8] (fun m i => ∃ k : Nat, k ≤ l.length ∧ i = .int .i64 k ∧ m = .int .i64 (mostTo l k)) (fun _ i => l.length - (intOf i).toNat)
  case atStart => exact ⟨0, Nat.zero_le _, rfl, rfl⟩
  case round =>
    obtain ⟨k, hk, rfl, rfl⟩ := hrel
    by_cases hlt : k < l.length
    · obtain ⟨b, off, rfl, hbl, hc⟩ := hx.cell k hlt
      have HM := Lib.hid (mostTo_succ l k)
      go_wp2_with (go_at_call 86; refine (l1Most_any _ _ _).mono ?_; rintro e w' ⟨rfl, rfl⟩)
      go_round
      case rel => exact ⟨k + 1, by omega, by go_num, val_int HM.out⟩
      case measure => simp [intOf]; omega
    · obtain rfl : k = l.length := by omega
      go_wp2_with fail
      go_ret
      exact ⟨rfl, rfl⟩

set_option maxRecDepth 100000 in
theorem maGood_any (a : Option Addr) (xss : List (List Int)) (cap : Nat) (w : World) (hx : RdS w a xss) :
    Calls Try.prog 40 #[.agg #[.slice a xss.length cap]] w fun e w' => e = .returned (.bool (mxB xss)) ∧ Below w.heap.size w w' := by
  have hlen := hx.len
  have HX := Lib.hid hx
  by_cases h12 : 12 < xss.length
  · have H : Hid (mxB xss = false) := by
      rw [Hid, ← Bool.not_eq_true]
      intro h
      have := mxB_small h
      omega
    go_enter Try.func40, Try.ntmps40
    go_wp2_with fail
    go_ret
    exact ⟨ret_bool H.out.symm, (by repeat (first | exact Below.refl _ _ | assumption | refine Below.alloc ?_ (by first | exact Nat.le_refl _ | (simp only [World.size_alloc, World.size_setCell, World.size_drew]; omega) | omega) _ | refine Below.setCell ?_ (by first | exact Nat.le_refl _ | (simp only [World.size_alloc, World.size_setCell, World.size_drew]; omega) | omega) _ | refine Below.drew ?_))⟩
  · go_enter Try.func40, Try.ntmps40
    go_wp2_with fail
    go_loopw [17] (fun i wr => ∃ k : Nat, k ≤ xss.length ∧ i = .int .i64 k ∧ Hid (∀ j, j < k → rowG xss j) ∧ wr = (w.alloc (.cells #[.slice a xss.length cap] 27))) (fun i _ => xss.length - (intOf i).toNat)
    case atStart => exact ⟨0, Nat.zero_le _, rfl, fun j hj => by omega, rfl⟩
    case round =>
      obtain ⟨k, hk, rfl, HR, rfl⟩ := hrel
      by_cases hlt : k < xss.length
      · obtain ⟨b, off, a', cap', rfl, hbl, hc, hr⟩ := (HX.out.below (show Below w.heap.size w (w.alloc (.cells #[.slice a xss.length cap] 27)) from (by repeat (first | exact Below.refl _ _ | assumption | refine Below.alloc ?_ (by first | exact Nat.le_refl _ | (simp only [World.size_alloc, World.size_setCell, World.size_drew]; omega) | omega) _ | refine Below.setCell ?_ (by first | exact Nat.le_refl _ | (simp only [World.size_alloc, World.size_setCell, World.size_drew]; omega) | omega) _ | refine Below.drew ?_)))).row k hlt
        have k1 : (k : Int) < (xss.length : Int) := by omega
        by_cases hq : (rowL xss k).length = xss.length
        · have hqq : (((rowL xss k).length : Int) != (xss.length : Int)) = false := by simp [hq]
          have HQ := Lib.hid hq
          have hrl := hr.len
          cases hal : allB (rowL xss k) 0 12
          · have H : Hid (mxB xss = false) := by
              rw [Hid, ← Bool.not_eq_true]
              intro h
              rw [(rowG_of h hlt).2.1] at hal
              cases hal
            have HA := Lib.hid hal
            clear hq hal
            go_wp2_with fail
            refine (l1All_any _ _ _ _ _ _ hr).mono ?_
            rintro e w' ⟨rfl, rfl⟩
            rw [HA.out]
            go_wp2_with fail
            go_ret
            exact ⟨ret_bool H.out.symm, (by repeat (first | exact Below.refl _ _ | assumption | refine Below.alloc ?_ (by first | exact Nat.le_refl _ | (simp only [World.size_alloc, World.size_setCell, World.size_drew]; omega) | omega) _ | refine Below.setCell ?_ (by first | exact Nat.le_refl _ | (simp only [World.size_alloc, World.size_setCell, World.size_drew]; omega) | omega) _ | refine Below.drew ?_))⟩
          · have HA := Lib.hid hal
            by_cases hm : mostTo (rowL xss k) (rowL xss k).length = 0
            · have H : Hid (mxB xss = false) := by
                rw [Hid, ← Bool.not_eq_true]
                intro h
                exact (rowG_of h hlt).2.2.1 hm
              have HM := Lib.hid hm
              clear hq hal hm
              go_wp2_with fail
              refine (l1All_any _ _ _ _ _ _ hr).mono ?_
              rintro e w' ⟨rfl, rfl⟩
              rw [HA.out]
              go_wp2_with fail
              refine (ivMost_any _ _ _ _ hr).mono ?_
              rintro e w' ⟨rfl, rfl⟩
              rw [HM.out]
              go_wp2_with fail
              go_ret
              exact ⟨ret_bool H.out.symm, (by repeat (first | exact Below.refl _ _ | assumption | refine Below.alloc ?_ (by first | exact Nat.le_refl _ | (simp only [World.size_alloc, World.size_setCell, World.size_drew]; omega) | omega) _ | refine Below.setCell ?_ (by first | exact Nat.le_refl _ | (simp only [World.size_alloc, World.size_setCell, World.size_drew]; omega) | omega) _ | refine Below.drew ?_))⟩
            · have hmm : (mostTo (rowL xss k) (rowL xss k).length == 0) = false := by simp [hm]
              have HM := Lib.hid hm
              have HRD := Lib.hid hr
              clear hq hal hm
              obtain ⟨M, hM⟩ : ∃ M, M = mostTo (rowL xss k) (rowL xss k).length := ⟨_, rfl⟩
              have HMM := Lib.hid hM
              rw [← hM] at hmm
              clear hM
              go_wp2_with fail
              refine (l1All_any _ _ _ _ _ _ hr).mono ?_
              rintro e w' ⟨rfl, rfl⟩
              rw [HA.out]
              go_wp2_with fail
              refine (ivMost_any _ _ _ _ hr).mono ?_
              rintro e w' ⟨rfl, rfl⟩
              rw [← HMM.out]
              clear hr
              go_wp2_with fail
              go_loop [38] (fun i => ∃ q : Nat, q ≤ (rowL xss k).length ∧ i = .int .i64 q ∧ Hid (∀ j, j < q → j < k → atM xss k j = 0)) (fun i => (rowL xss k).length - (intOf i).toNat)
              case atStart => exact ⟨0, Nat.zero_le _, rfl, fun j hj => by omega⟩
              case round =>
                obtain ⟨q, hq2, rfl, HU⟩ := hrel
                by_cases hlt2 : q < (rowL xss k).length
                · obtain ⟨b2, off2, rfl, hbl2, hc2⟩ := HRD.out.cell q hlt2
                  have q1 : (q : Int) < ((rowL xss k).length : Int) := by omega
                  by_cases hqk : q < k
                  · have hqi : (q : Int) < (k : Int) := by omega
                    by_cases hp : 0 < nth (rowL xss k) q
                    · have H : Hid (mxB xss = false) := by
                        rw [Hid, ← Bool.not_eq_true]
                        intro h
                        have := (rowG_of h hlt).2.2.2 q hqk
                        rw [atM] at this
                        omega
                      go_wp2_with fail
                      go_ret
                      exact ⟨ret_bool H.out.symm, (by repeat (first | exact Below.refl _ _ | assumption | refine Below.alloc ?_ (by first | exact Nat.le_refl _ | (simp only [World.size_alloc, World.size_setCell, World.size_drew]; omega) | omega) _ | refine Below.setCell ?_ (by first | exact Nat.le_refl _ | (simp only [World.size_alloc, World.size_setCell, World.size_drew]; omega) | omega) _ | refine Below.drew ?_))⟩
                    · have HZ : Hid (atM xss k q = 0) := by
                        have := (allB_nth HA.out hlt2).1
                        rw [Hid, atM]; omega
                      go_wp2_with fail
                      go_round
                      case rel =>
                        refine ⟨q + 1, by omega, by go_num, fun j hj hjk => ?_⟩
                        by_cases e : j = q
                        · rw [e]; exact HZ.out
                        · exact HU.out j (by omega) hjk
                      case measure => simp [intOf]; omega
                  · have hqi : ¬ (q : Int) < (k : Int) := by omega
                    go_wp2_with fail
                    go_round
                    case rel =>
                      refine ⟨q + 1, by omega, by go_num, fun j hj hjk => HU.out j (by omega) hjk⟩
                    case measure => simp [intOf]; omega
                · have HG : Hid (rowG xss k) := ⟨HQ.out, HA.out, HM.out, fun j hj => HU.out j (by rw [HQ.out] at hlt2; rw [HQ.out] at hq2; have := HQ.out; omega) hj⟩
                  go_wp2_with fail
                  go_roundw
                  case rel =>
                    refine ⟨k + 1, by omega, by go_num, fun j hj => ?_, ?_⟩
                    · by_cases e : j = k
                      · rw [e]; exact HG.out
                      · exact HR.out j (by omega)
                    · first | rfl | trivial
                  case measure => simp [intOf]; omega
        · have hqq : (((rowL xss k).length : Int) != (xss.length : Int)) = true := by simp; omega
          have H : Hid (mxB xss = false) := by
            rw [Hid, ← Bool.not_eq_true]
            intro h
            exact hq (mxB_len h hlt)
          clear hq
          go_wp2_with fail
          go_ret
          exact ⟨ret_bool H.out.symm, (by repeat (first | exact Below.refl _ _ | assumption | refine Below.alloc ?_ (by first | exact Nat.le_refl _ | (simp only [World.size_alloc, World.size_setCell, World.size_drew]; omega) | omega) _ | refine Below.setCell ?_ (by first | exact Nat.le_refl _ | (simp only [World.size_alloc, World.size_setCell, World.size_drew]; omega) | omega) _ | refine Below.drew ?_))⟩
      · obtain rfl : k = xss.length := by omega
        have HL : Hid (∀ k, k < xss.length → (rowL xss k).length = xss.length) := fun k hk => (HR.out k hk).1
        have HV : Hid (∀ k, k < xss.length → ∀ j, j < (rowL xss k).length → 0 ≤ nth (rowL xss k) j ∧ nth (rowL xss k) j ≤ 12) := fun k hk j hj => allB_nth (HR.out k hk).2.1 hj
        clear hx
        go_wp2_with fail
        go_loopw [55] (fun i wr => ∃ k : Nat, k ≤ xss.length ∧ i = .int .i64 k ∧ Hid (∀ j, j < k → colG xss j) ∧ Below w.heap.size w wr ∧ wr.cell? ⟨w.heap.size, 0, none⟩ = some (.slice a xss.length cap) ∧ w.heap.size < wr.heap.size) (fun i _ => xss.length - (intOf i).toNat)
        case atStart => exact ⟨0, Nat.zero_le _, rfl, fun j hj => by omega, (by repeat (first | exact Below.refl _ _ | assumption | refine Below.alloc ?_ (by first | exact Nat.le_refl _ | (simp only [World.size_alloc, World.size_setCell, World.size_drew]; omega) | omega) _ | refine Below.setCell ?_ (by first | exact Nat.le_refl _ | (simp only [World.size_alloc, World.size_setCell, World.size_drew]; omega) | omega) _ | refine Below.drew ?_)), by simp, by simp⟩
        case round =>
          obtain ⟨q, hq, rfl, HC, hb, hcell, hsz⟩ := hrel
          have hbs := hb.size
          by_cases hlt : q < xss.length
          · have HCL := Lib.hid (maColumn_any a xss cap q wr (HX.out.below hb) (by omega) (fun k hk => by rw [HL.out k hk]; exact hlt))
            by_cases hm : mostTo (colL xss q) (colL xss q).length = 0
            · have H : Hid (mxB xss = false) := by
                rw [Hid, ← Bool.not_eq_true]
                intro h
                have := colG_of h hlt
                rw [colL_len] at hm
                exact this hm
              have HM := Lib.hid hm
              clear hm
              go_wp2_with fail
              refine HCL.out.mono ?_
              rintro e w2 ⟨a2, c2, rfl, hown, hb2⟩
              have HCC := Lib.hid (ivMost_any a2 (colL xss q) c2 w2 hown.rd)
              rw [HM.out, colL_len] at HCC
              go_wp2_with fail
              refine HCC.out.mono ?_
              rintro e w' ⟨rfl, rfl⟩
              go_wp2_with fail
              go_ret
              exact ⟨ret_bool H.out.symm, hb.trans (hb2.mono hbs)⟩
            · have HM : Hid (colG xss q) := by rw [Hid, colG]; rw [colL_len] at hm; exact hm
              obtain ⟨M, hM⟩ : ∃ M, M = mostTo (colL xss q) (colL xss q).length := ⟨_, rfl⟩
              have HMM := Lib.hid hM
              rw [← hM] at hm
              have hmm : (M == 0) = false := by simp [hm]
              clear hM hm
              go_wp2_with fail
              refine HCL.out.mono ?_
              rintro e w2 ⟨a2, c2, rfl, hown, hb2⟩
              have HCC := Lib.hid (ivMost_any a2 (colL xss q) c2 w2 hown.rd)
              rw [← HMM.out, colL_len] at HCC
              have hcell2 := (hb2.cell (p := ⟨w.heap.size, 0, none⟩) hsz).trans hcell
              have hs2 := hb2.size
              go_wp2_with fail
              refine HCC.out.mono ?_
              rintro e w' ⟨rfl, rfl⟩
              go_wp2_with fail
              go_roundw
              case rel =>
                refine ⟨q + 1, by omega, by go_num, fun j hj => ?_, hb.trans (hb2.mono hbs), hcell2, by omega⟩
                by_cases e : j = q
                · rw [e]; exact HM.out
                · exact HC.out j (by omega)
              case measure => simp [intOf]; omega
          · obtain rfl : q = xss.length := by omega
            have HS := Lib.hid (maSum_any a xss cap wr (HX.out.below hb) (by omega) HL.out HV.out)
            have H : Hid (decide (matS xss xss.length ≤ 12) = mxB xss) := (mx_of HR.out HC.out).symm
            have hge : -9223372036854775808 ≤ matS xss xss.length ∧ matS xss xss.length ≤ 9223372036854775807 ∨ True := .inr trivial
            go_wp2_with fail
            refine HS.out.mono ?_
            rintro e w2 ⟨rfl, hb2⟩
            go_wp2_with fail
            go_ret
            exact ⟨ret_bool H.out, hb.trans (hb2.mono hbs)⟩

set_option maxRecDepth 100000 in
theorem sShrink_any (a : Option Addr) (xss : List (List Int)) (cap : Nat) (w : World) (hx : RdC w a xss) (hs : xss.length + totS xss xss.length ≤ 1048576) :
    Calls Try.prog 34 #[.agg #[.slice a xss.length cap]] w fun e w' => ∃ a0 c0 vl, e = .returned (.tuple #[.agg #[.slice a0 (shL xss).length c0], .int .i64 (topV xss), .bool (topB xss)]) ∧ RowsP w' w.heap.size (.slice a0 (shL xss).length c0) vl (shL xss) ∧ Below w.heap.size w w' := by
  have hlen := hx.rd.len
  have hV := Var1.new (w.alloc (.cells #[.slice a xss.length cap] 27)) (.slice none 0 0) 27
  have hb0 : Below w.heap.size w ((w.alloc (.cells #[.slice a xss.length cap] 27)).alloc (.cells #[.slice none 0 0] 27)) := (by repeat (first | exact Below.refl _ _ | assumption | refine Below.alloc ?_ (by first | exact Nat.le_refl _ | (simp only [World.size_alloc, World.size_setCell, World.size_drew]; omega) | omega) _ | refine Below.setCell ?_ (by first | exact Nat.le_refl _ | (simp only [World.size_alloc, World.size_setCell, World.size_drew]; omega) | omega) _ | refine Below.drew ?_))
  have hA : Box1 ((w.alloc (.cells #[.slice a xss.length cap] 27)).alloc (.cells #[.slice none 0 0] 27)) w.heap.size (.slice a xss.length cap) := (Box1.new w _ _).below ((Below.refl _ _).alloc (Nat.le_refl _) _)
  rw [World.size_alloc] at hV
  have HX := Lib.hid hx
  clear hx
  cases hm : mxB xss
  · have HM := Lib.hid hm
    have H1 : Hid (topB xss = false) := by simp [Hid, topB, hm]
    have H2 : Hid (shL xss = []) := by rw [Hid, shL, H1.out]; rfl
    have H3 : Hid (topV xss = 0) := by rw [Hid, topV, H1.out]; rfl
    clear hm
    go_enter Try.func34, Try.ntmps34
    go_wp2_with fail
    refine (maGood_any _ _ _ _ (HX.out.rd.below hb0)).mono ?_
    rintro e w1 ⟨rfl, hb⟩
    rw [HM.out]
    have b1 : Below w.heap.size w w1 := hb0.trans (hb.mono (by simp; omega))
    have hV1 := hV.below hb
    have ⟨⟨zV, cV⟩, fV⟩ := hV1
    clear hb hV
    go_wp2_with fail
    have hV2 := hV1.set (.slice none 0 0)
    have b2 := b1.setCell (p := ⟨w.heap.size + 1, 0, none⟩) (by simp) (.slice none 0 0)
    refine bodyPost_ret (v := .tuple #[.agg #[.slice none 0 0], .int .i64 0, .bool false]) (by have ⟨⟨_, q1⟩, _⟩ := hV2; simp [results, Try.results34, go_sem, q1]) rfl ?_
    exact ⟨none, 0, [], by rw [H1.out, H2.out, H3.out]; rfl, by rw [H2.out]; exact RowsP.nil _ _, b2⟩
  · have HM := Lib.hid hm
    by_cases h0 : xss.length = 0
    · have h00 : ((xss.length : Int) == 0) = true := by simp [h0]
      have H1 : Hid (topB xss = false) := by simp [Hid, topB, h0]
      have H2 : Hid (shL xss = []) := by rw [Hid, shL, H1.out]; rfl
      have H3 : Hid (topV xss = 0) := by rw [Hid, topV, H1.out]; rfl
      clear hm h0
      go_enter Try.func34, Try.ntmps34
      go_wp2_with fail
      refine (maGood_any _ _ _ _ (HX.out.rd.below hb0)).mono ?_
      rintro e w1 ⟨rfl, hb⟩
      rw [HM.out]
      have b1 : Below w.heap.size w w1 := hb0.trans (hb.mono (by simp; omega))
      have hV1 := hV.below hb
      have ⟨⟨zV, cV⟩, fV⟩ := hV1
      have ⟨zA, cA⟩ := hA.below hb
      clear hb hV
      go_wp2_with fail
      have hV2 := hV1.set (.slice none 0 0)
      have b2 := b1.setCell (p := ⟨w.heap.size + 1, 0, none⟩) (by simp) (.slice none 0 0)
      refine bodyPost_ret (v := .tuple #[.agg #[.slice none 0 0], .int .i64 0, .bool false]) (by have ⟨⟨_, q1⟩, _⟩ := hV2; simp [results, Try.results34, go_sem, q1]) rfl ?_
      exact ⟨none, 0, [], by rw [H1.out, H2.out, H3.out]; rfl, by rw [H2.out]; exact RowsP.nil _ _, b2⟩
    · have h00 : ((xss.length : Int) == 0) = false := by simp only [beq_eq_false_iff_ne, ne_eq]; omega
      have H1 : Hid (topB xss = true) := by simp only [Hid, topB, hm, Bool.true_and, decide_eq_true_eq]; exact h0
      have HMS := Lib.hid (fun W (h : RdC W a xss) => maShrink_any a xss cap W h H1.out)
      obtain ⟨L, hL⟩ : ∃ L, L = (shL xss).length := ⟨_, rfl⟩
      have HLL := Lib.hid hL
      obtain ⟨T, hT⟩ : ∃ T, T = topV xss := ⟨_, rfl⟩
      have HTT := Lib.hid hT
      rw [← hL, ← hT] at HMS
      clear hm h0 hL hT
      go_enter Try.func34, Try.ntmps34
      go_wp2_with fail
      refine (maGood_any _ _ _ _ (HX.out.rd.below hb0)).mono ?_
      rintro e w1 ⟨rfl, hb⟩
      rw [HM.out]
      have b1 : Below w.heap.size w w1 := hb0.trans (hb.mono (by simp; omega))
      have hV1 := hV.below hb
      have ⟨zA, cA⟩ := hA.below hb
      have hz1 : w.heap.size + 2 ≤ w1.heap.size := by have := hb.size; simp at this; omega
      have HV1 := Lib.hid hV1
      clear hb hV hV1
      go_wp2_with fail
      refine (HMS.out _ (HX.out.below b1)).mono ?_
      rintro e w2 ⟨a0, c0, vl, rfl, hro, hb2⟩
      have b2 := b1.trans (hb2.mono b1.size)
      have hV2 := (HV1.out.below hb2).alloc (.cells #[.slice a0 L c0] 27)
      have b2' := b2.alloc b2.size (.cells #[.slice a0 L c0] 27)
      have hro2 := hro.below ((Below.refl _ _).alloc (Nat.le_refl _) (.cells #[.slice a0 L c0] 27)) (Nat.le_refl _)
      have ⟨⟨zV, cV⟩, fV⟩ := hV2
      have HR2 := Lib.hid hro2
      have HV2 := Lib.hid hV2
      clear hb2 hro hro2 hV2 HMS
      go_wp2_with fail
      have hV3 := HV2.out.set (.slice a0 L c0)
      have b3 := b2'.setCell (p := ⟨w.heap.size + 1, 0, none⟩) (by simp) (.slice a0 L c0)
      refine bodyPost_ret (v := .tuple #[.agg #[.slice a0 L c0], .int .i64 T, .bool true]) (by have ⟨⟨_, q1⟩, _⟩ := hV3; simp [results, Try.results34, go_sem, q1]) rfl ?_
      exact ⟨a0, c0, vl, by rw [H1.out, HLL.out, HTT.out], by rw [← HLL.out]; exact (HR2.out.setBelow (show w.heap.size + 1 < w1.heap.size by omega) _).mono (by omega), b3⟩

set_option maxRecDepth 100000 in
set_option maxHeartbeats 1000000 in
theorem takeOut_any (g c B n x : Nat) (vl : List Value) (f : Nat → Nat → Int) (w : World) (h : RowsP w B (.slice (some ⟨g, 0, none⟩) n c) vl (sqM f n n)) (hx : x < n) (hB : B ≤ w.heap.size) (hn : n ≤ 12) (hnc : n ≤ c) (hc : c ≤ 1048576) :
    Calls Try.prog 62 #[.slice (some ⟨g, 0, none⟩) n c, .int .i64 (x : Int)] w fun e w' => ∃ ul, e = .returned (.slice (some ⟨g, 0, none⟩) (n - 1) c) ∧ RowsP w' B (.slice (some ⟨g, 0, none⟩) (n - 1) c) ul (sqM (shF f n x) (n - 1) (n - 1)) ∧ Below B w w' := by
  have hxc : x ≤ c := by omega
  have hxn : x ≤ n := by omega
  have HSW := Lib.hid (fun c2 => swapLast_any g c c2 B n n x x vl f w h hxn hx (by omega) hB (by omega))
  have hgl := h.o.lt g rfl
  obtain ⟨F, hF⟩ : ∃ F, F = swF f n x x := ⟨_, rfl⟩
  have HSH : Hid (∀ m k, sqM (shF f n x) m k = sqM (fun a b => F (skp x a) (skp x b)) m k) := fun m k => by rw [hF]; rfl
  rw [← hF] at HSW
  clear hF h
  go_enter Try.func62, Try.ntmps62
  go_wp2_with fail
  refine (HSW.out _).mono ?_
  rintro e w1 ⟨rfl, hro1, hb1⟩
  have hsl : ∀ i, i < n → ∃ a m c, valAt vl i = .slice a m c := fun i hi => by
    obtain ⟨a9, c9, e9⟩ := (hro1.o.row i (by rw [sqM_len]; exact hi)).form
    exact ⟨a9, _, c9, e9⟩
  have hown := hro1.o.own
  rw [sqM_len] at hown
  have HDEL := Lib.hid (delRows_any g n c B x vl w1 hown hsl hx hnc hc)
  have HR1 := Lib.hid hro1
  have hs1 := hb1.size
  clear hro1 hsl hown HSW
  go_wp2_with fail
  refine HDEL.out.mono ?_
  rintro e w2 ⟨rfl, ho2, hg2⟩
  have hro2 := HR1.out.del hx ho2 hg2
  have b2 : Below B w w2 := hb1.trans (grown_below hg2 B (by omega) (by omega))
  obtain ⟨G2, hG2⟩ : ∃ G2 : Nat → Nat → Int, G2 = fun a b => F (skp x a) b := ⟨_, rfl⟩
  have HSH2 : Hid (∀ m k, sqM (shF f n x) m k = sqM (fun a b => G2 a (skp x b)) m k) := fun m k => by rw [HSH.out, hG2]
  rw [← hG2, ← tkM_zero (x := x)] at hro2
  have HR2 := Lib.hid hro2
  have hs2 : w.heap.size ≤ w2.heap.size := b2.size
  obtain ⟨ul0, hul0⟩ : ∃ ul0, ul0 = vl.take x ++ vl.drop (x+1) := ⟨_, rfl⟩
  rw [← hul0] at HR2
  obtain ⟨N1, hN1⟩ : ∃ N1, N1 = n - 1 := ⟨_, rfl⟩
  have HN1 := Lib.hid hN1
  have hN1n : N1 ≤ n := by omega
  rw [← hN1] at HR2 ⊢
  clear hro2 ho2 hg2 hG2 hul0 HDEL HR1 hN1
  go_wp2_with fail
  go_loopw [20] (fun i wr => ∃ (k : Nat) (ul : List Value), k ≤ N1 ∧ i = .int .i64 k ∧ RowsP wr B (.slice (some ⟨g, 0, none⟩) N1 c) ul (tkM G2 n x k) ∧ Below B w wr) (fun i _ => N1 - (intOf i).toNat)
  case atStart => exact ⟨0, _, Nat.zero_le _, rfl, HR2.out, b2⟩
  case round =>
    clear b2
    obtain ⟨k, ul, hk, rfl, hro, hb⟩ := hrel
    have hbs := hb.size
    by_cases hlt : k < N1
    · have k1 : (k : Int) < (N1 : Int) := by omega
      have hkl : k < n - 1 := by rw [← HN1.out]; exact hlt
      have hk9 : k < (tkM G2 n x k).length := by rw [tkM_len]; exact hkl
      obtain ⟨g4, e4, hg4, hg5, hc4, hf4⟩ := hro.outer hk9
      simp only [Option.some.injEq, Addr.mk.injEq, and_true] at e4
      subst e4
      have hrow := hro.o.row k hk9
      obtain ⟨ar, cr, er⟩ := hrow.form
      have hrl : (rowL (tkM G2 n x k) k).length = n := by rw [tkM_row hkl, if_neg (Nat.lt_irrefl k), fmap_len]
      have HRO := Lib.hid hro
      have HER := Lib.hid er
      have HTS := Lib.hid (tkM_step (f := G2) hkl hx)
      rw [er] at hc4 hrow
      have HDL := Lib.hid (delOwn ar cr x (rowL (tkM G2 n x k) k) B wr hrow (by rw [hrl]; exact hx))
      rw [hrl] at hc4 HDL HER
      have HNN : Hid (n - 1 = N1) := HN1.out.symm
      rw [HNN.out] at HDL
      clear hro hrow er hrl hk9 hkl
      go_wp2_with fail
      refine HDL.out.mono ?_
      rintro e w3 ⟨rfl, ho3, hg3⟩
      obtain ⟨g9, c9, e9, hg9, hg10, ⟨z9, hz9⟩, hf9, hnew⟩ := HRO.out.swapRow (k := k) (by rw [tkM_len, HNN.out]; exact hlt) (by rw [HER.out]; exact hg3) ho3 (by rw [HER.out]; cases ar <;> rfl)
      simp only [Value.slice.injEq, Option.some.injEq, Addr.mk.injEq, and_true] at e9
      obtain ⟨rfl, -, -⟩ := e9
      rw [HTS.out] at hnew
      have HNEW := Lib.hid hnew
      have hU := (HRO.out.o.row k (by rw [tkM_len, HNN.out]; exact hlt)).lt
      rw [HER.out] at hU
      have b3 := hb.trans (below_of_grown hg3 (fun c e => (hU c e).1) (by omega))
      have b4 := b3.setCell (p := ⟨g, k, none⟩) hg4 (.slice ar N1 cr)
      clear ho3 hg3 hnew hU
      go_wp2_with fail
      go_roundw
      case rel => exact ⟨k + 1, _, by omega, by go_num, HNEW.out, b4⟩
      case measure => simp [intOf]; omega
    · obtain rfl : k = N1 := by omega
      have HR := Lib.hid hro
      clear hro
      go_wp2_with fail
      go_ret
      have hf := HR.out
      rw [show tkM G2 n x k = sqM (fun a b => G2 a (skp x b)) k k by have h := tkM_end (f := G2) (n := n) (x := x); rw [← HN1.out] at h; exact h, ← HSH2.out] at hf
      rw [← HN1.out]
      exact ⟨ul, rfl, hf, hb⟩

def addB (s x : Int) : Bool := decide (0 ≤ x) && decide (s + x ≤ 12)
theorem addB_iff {s x : Int} : addB s x = true ↔ 0 ≤ x ∧ s + x ≤ 12 := by simp [addB]
def addW (b : Nat) (s x : Int) (w : World) : World := if addB s x = true then w.setCell ⟨b, 0, none⟩ (.int .i64 (s + x)) else w
theorem iAdd_any (b : Nat) (s x : Int) (v : Value) (w : World) (hv : Var2 w b (.int .i64 s) v) (h0 : 0 ≤ s ∧ s ≤ 12) :
    Calls Try.prog 59 #[.pointer (some ⟨b, 0, none⟩), .int .i64 x] w fun e w' => e = .returned (.bool (addB s x)) ∧ w' = addW b s x w := by
  have ⟨⟨z, c, d⟩, f, g⟩ := hv
  by_cases h1 : x < 0
  · have H : Hid (addB s x = false) := by rw [Hid, ← Bool.not_eq_true, addB_iff]; omega
    go_enter Try.func59, Try.ntmps59
    go_wp2_with fail
    go_ret
    exact ⟨ret_bool H.out.symm, by rw [addW, H.out]; rfl⟩
  · by_cases h2 : 12 - s < x
    · have H : Hid (addB s x = false) := by rw [Hid, ← Bool.not_eq_true, addB_iff]; omega
      go_enter Try.func59, Try.ntmps59
      go_wp2_with fail
      go_ret
      exact ⟨ret_bool H.out.symm, by rw [addW, H.out]; rfl⟩
    · have H : Hid (addB s x = true) := addB_iff.2 (by omega)
      go_enter Try.func59, Try.ntmps59
      go_wp2_with fail
      go_ret
      exact ⟨ret_bool H.out.symm, by rw [addW, H.out]; rfl⟩

/-- the first of two cells that may be written has been written -/
theorem Var2.set0 {w : World} {b : Nat} {u v : Value} (h : Var2 w b u v) (u' : Value) : Var2 (w.setCell ⟨b, 0, none⟩ u') b u' v := by
  refine ⟨⟨by simpa using h.1.1, ?_, ?_⟩, by simpa using h.2.1, by simpa using h.2.2⟩
  · rw [World.cell?_setCell_same _ _ _ h.1.2.1]
  · rw [World.cell?_setCell_other _ _ _ _ (by simp)]; exact h.1.2.2
def addV (s x : Int) : Int := if addB s x = true then s + x else s
theorem iPut_any (b : Nat) (s x : Int) (v : Value) (ys : List Int) (w : World) (hv : Var2 w b (.int .i64 s) v) (h0 : 0 ≤ s ∧ s ≤ 12) (ho : OwnI w (b+1) v ys) (h63 : ys.length ≤ 1048576) :
    Calls Try.prog 70 #[.pointer (some ⟨b, 0, none⟩), .int .i64 x, .int .i64 x] w fun e w' => e = .returned (.bool (addB s x)) ∧ ∃ v', Var2 w' b (.int .i64 (addV s x)) v' ∧ OwnI w' (b+1) v' (ys ++ [x]) ∧ Below b w w' := by
  have ⟨⟨z, c, d⟩, f, g⟩ := hv
  have HV := Lib.hid hv
  obtain ⟨av, cv, rfl⟩ := ho.form
  have HO := Lib.hid ho
  clear hv ho
  go_enter Try.func70, Try.ntmps70
  go_wp2_with (at_builtin; refine push_at rfl _ _ rfl (z := x) rfl HO.out rfl (by omega) (by omega) ?_)
  intro v3 w3 o3 hg hat
  have hU := HO.out.lt
  have hv3 := HV.out.kept hg (ne_own (fun c e => by have := (hU c e).1; omega))
  have b3 : Below b w w3 := below_of_grown hg (fun c e => by have := (hU c e).1; omega) (by omega)
  have ⟨⟨z3, c3, d3⟩, f3, g3⟩ := hv3
  clear hg hat hU
  obtain ⟨a3, k3, rfl⟩ := o3.form
  rw [show (ys ++ [x]).length = ys.length + 1 by simp] at o3 ⊢
  go_wp2_with fail
  have hv4 := hv3.set1 (.slice a3 (ys.length + 1) k3)
  refine (iAdd_any b s x _ _ hv4 h0).mono ?_
  rintro e w5 ⟨rfl, hw5⟩
  have H : Hid (∃ v', Var2 w5 b (.int .i64 (addV s x)) v' ∧ OwnI w5 (b+1) v' (ys ++ [x]) ∧ Below b w w5) := by
    rw [hw5, addW, addV]
    cases addB s x
    · exact ⟨.slice a3 (ys.length + 1) k3, by simpa using hv4, by simpa using o3.setBelow (show b < b + 1 by omega) _, by simpa using b3.setCell (Nat.le_refl _) _⟩
    · exact ⟨.slice a3 (ys.length + 1) k3, by simpa using hv4.set0 _, by simpa using (o3.setBelow (show b < b + 1 by omega) _).setBelow (show b < b + 1 by omega) _, by simpa using (b3.setCell (Nat.le_refl _) _).setCell (Nat.le_refl _) _⟩
  clear hw5 hv4
  go_wp2_with fail
  go_ret
  exact ⟨rfl, H.out⟩

set_option maxRecDepth 100000 in
theorem iPutS_any (b : Nat) (s x : Int) (v : Value) (vl : List Value) (xss : List (List Int)) (r : List Int) (ra : Option Addr) (rc B C : Nat) (w : World) (hv : Var2 w b (.int .i64 s) v) (h0 : 0 ≤ s ∧ s ≤ 12)
    (hp : SumP w B v vl xss) (hr : OwnI w C (.slice ra r.length rc) r) (hbB : b + 1 ≤ B) (hBC : B ≤ C) (hC : C ≤ w.heap.size) (hvC : ∀ c, v.ownBlock = some c → c < C) (hrC : ∀ k, k < xss.length → ∀ c, (valAt vl k).ownBlock = some c → c < C) (h63 : xss.length ≤ 1048576) :
    Calls Try.prog 71 #[.pointer (some ⟨b, 0, none⟩), .agg #[.int .i64 (totR r), .slice ra r.length rc], .int .i64 x] w fun e w' => e = .returned (.bool (addB s x)) ∧ ∃ v', Var2 w' b (.int .i64 (addV s x)) v' ∧ SumP w' B v' (vl ++ [.slice ra r.length rc]) (xss ++ [r]) ∧ Below b w w' := by
  obtain ⟨i0, hi, hz0, hz1, hz2⟩ := info_parts infoSum
  have ⟨⟨z, c, d⟩, f, g⟩ := hv
  have HV := Lib.hid hv
  obtain ⟨av, cv, rfl⟩ := hp.form
  have HP := Lib.hid hp
  have HR := Lib.hid hr
  have HB := Lib.hid hvC
  have HRB := Lib.hid hrC
  have Hown := Lib.hid (ownsRow_bel hp.own (w' := ((w.alloc (.cells #[.int .i64 (totR r), .slice ra r.length rc] 75)).alloc (.cells #[.int .i64 (totR r), .slice ra r.length rc] 75)).drew) ((((Below.refl _ _).alloc (Nat.le_refl _) _).alloc (by simp) _).drew) (Nat.le_refl _))
  have hnews := cell_two_new (w.alloc (.cells #[.int .i64 (totR r), .slice ra r.length rc] 75)) (.int .i64 (totR r)) (.slice ra r.length rc) 75
  simp only [World.size_alloc] at hnews
  have Hnews := Lib.hid hnews
  have hpl := pcs_len xss vl xss.length
  have HPL := Lib.hid hpl
  clear hv hp hr hnews hvC hrC hpl
  obtain ⟨PC, hPC⟩ : ∃ PC, PC = pcs xss vl xss.length := ⟨_, rfl⟩
  have HPC := Lib.hid hPC
  rw [← hPC] at Hown HPL
  clear hPC
  obtain ⟨T, hT⟩ : ∃ T, T = totR r := ⟨_, rfl⟩
  have HT := Lib.hid hT
  rw [← hT] at Hown Hnews ⊢
  clear hT
  go_enter Try.func71, Try.ntmps71
  go_wp2_with fail
  go_region_law (refine step_append_lies _ (by rfl) _ _ _ (by rfl) B 75 i0 (.agg #[.int .i64 0, .slice none 0 0]) 2 32 Try.underlying52 hi hz0 hz1 hz2 rfl (by omega) (.slice av xss.length cv) xss.length PC (by rfl) Hown.out ⟨w.heap.size + 1, 0, none⟩ 1 1 [.int .i64 T, .slice ra r.length rc] (by rfl) (by rfl) Hnews.out (by intro u hu; simp at hu; rcases hu with rfl | rfl <;> rfl) (by omega) (by unfold maxLen; omega) (by omega) (by simp; omega) (w.heap.size + 2) (by simp) ?_; intro gg cap3 w3 hown3 hgrow hat hlt3; have hg2 : w.grownBy w3 (Value.slice av xss.length cv).ownBlock := grown_alloc_set (grown_alloc_set (o := .cells #[.int .i64 T, .slice ra r.length rc] 75) ⟨hgrow.os, hgrow.tape, hgrow.output, hgrow.size, hgrow.block⟩); have hv3 := HV.out.kept hg2 (ne_own (fun c e => by have := (HP.out.lt c e).1; omega)); have ⟨⟨z3, c3, d3⟩, f3, g3⟩ := hv3)
  all_goals
    have hp3 : SumP w3 B (.slice (some ⟨gg, 0, none⟩) (xss.length + 1) cap3) (vl ++ [.slice ra r.length rc]) (xss ++ [r]) := by
      refine HP.out.snoc HR.out hBC HB.out HRB.out ?_ hg2 ?_
      · rw [← HPC.out, ← HT.out]; exact hown3
      · rcases hat with h | h
        · exact .inl (by rw [h]; rfl)
        · exact .inr ⟨gg, by omega, rfl⟩
    have b3 : Below b w w3 := below_of_grown hg2 (fun c e => by have := (HP.out.lt c e).1; omega) (by omega)
    have hv4 := hv3.set1 (.slice (some ⟨gg, 0, none⟩) (xss.length + 1) cap3)
    clear hown3 hgrow hat hg2
    go_wp2_with fail
    refine (iAdd_any b s x _ _ hv4 h0).mono ?_
    rintro e w5 ⟨rfl, hw5⟩
    have hset : ∀ (p : Addr) (u : Value) (w9 : World), p.block = b → SumP w9 B (.slice (some ⟨gg, 0, none⟩) (xss.length + 1) cap3) (vl ++ [.slice ra r.length rc]) (xss ++ [r]) → SumP (w9.setCell p u) B (.slice (some ⟨gg, 0, none⟩) (xss.length + 1) cap3) (vl ++ [.slice ra r.length rc]) (xss ++ [r]) := fun p u w9 e h =>
      ⟨ownsRow_setCell_below h.own (by rw [e]; omega) u, h.vlen, fun k hk => (h.row k hk).setBelow (by rw [e]; omega) u, h.apart, h.pair⟩
    have H : Hid (∃ v', Var2 w5 b (.int .i64 (addV s x)) v' ∧ SumP w5 B v' (vl ++ [.slice ra r.length rc]) (xss ++ [r]) ∧ Below b w w5) := by
      rw [hw5, addW, addV]
      cases addB s x
      · exact ⟨.slice (some ⟨gg, 0, none⟩) (xss.length + 1) cap3, by simpa using hv4, by simpa using hset _ _ _ rfl hp3, by simpa using b3.setCell (Nat.le_refl _) _⟩
      · exact ⟨.slice (some ⟨gg, 0, none⟩) (xss.length + 1) cap3, by simpa using hv4.set0 _, by simpa using hset _ _ _ rfl (hset _ _ _ rfl hp3), by simpa using (b3.setCell (Nat.le_refl _) _).setCell (Nat.le_refl _) _⟩
    clear hw5 hv4 hset hp3
    go_wp2_with fail
    go_ret
    exact ⟨rfl, H.out⟩

theorem add_ok {s x : Int} (h : addB s x = true) : addV s x = s + x := by rw [addV, if_pos h]
/-- the first k rows may be rows -/
def adTo (xss : List (List Int)) (k : Nat) : Prop := ∀ i, i < k → (∀ j, j < (rowL xss i).length → 0 ≤ nth (rowL xss i) j) ∧ 0 < totR (rowL xss i)
theorem ad_no_num {xss : List (List Int)} {k j : Nat} (hk : k < xss.length) (hj : j < (rowL xss k).length) (hpre : ∀ i, i < j → 0 ≤ nth (rowL xss k) i) (h : addB (totI (rowL xss k) j) (nth (rowL xss k) j) = false) : adB xss = false := by
  rw [← Bool.not_eq_true]
  intro h2
  have ⟨h3, h4⟩ := adB_iff.1 h2
  have h5 := (adB_row h2 hk).2
  have h6 := totI_mono (xs := rowL xss k) (j := j + 1) (k := (rowL xss k).length) (by omega) (h3 k hk).1
  rw [totR] at h5
  rw [totI] at h6
  rw [← Bool.not_eq_true, addB_iff] at h
  exact h ⟨(h3 k hk).1 j hj, by omega⟩
theorem ad_no_row {xss : List (List Int)} {k : Nat} (hk : k < xss.length) (h : addB (matS xss k) (totR (rowL xss k)) = false) : adB xss = false := by
  rw [← Bool.not_eq_true]
  intro h2
  have ⟨h3, h4⟩ := adB_iff.1 h2
  have h5 := adB_row h2 hk
  have h6 := matS_mono (xss := xss) (j := k + 1) (k := xss.length) (by omega) (fun i hi => by have := (h3 i hi).2; omega)
  rw [matS] at h6
  rw [← Bool.not_eq_true, addB_iff] at h
  exact h ⟨by omega, by omega⟩
set_option maxRecDepth 100000 in
set_option maxHeartbeats 1000000 in
theorem iAddUp_any (a : Option Addr) (xss : List (List Int)) (cap : Nat) (w : World) (hx : RdS w a xss) (hs : xss.length + totS xss xss.length ≤ 1048576) :
    Calls Try.prog 48 #[.slice a xss.length cap] w fun e w' => ∃ s va vn vc, e = .returned (.tuple #[.agg #[.int .i64 s, .slice va vn vc], .bool (adB xss)]) ∧ (adB xss = true → s = matS xss xss.length ∧ ∃ vl, SumP w' w.heap.size (.slice va vn vc) vl xss) ∧ Below w.heap.size w w' := by
  have hlen := hx.len
  have HX := Lib.hid hx
  have HS := Lib.hid hs
  go_enter Try.func48, Try.ntmps48
  clear hx hs
  go_wp2_with fail
  go_loopw [12] (fun i wr => ∃ (k : Nat) (v : Value) (vl : List Value), k ≤ xss.length ∧ i = .int .i64 k ∧ Hid (adTo xss k) ∧ 0 ≤ matS xss k ∧ matS xss k ≤ 12 ∧ Var2 wr w.heap.size (.int .i64 0) (.slice none 0 0) ∧ Var2 wr (w.heap.size + 1) (.int .i64 (matS xss k)) v ∧ SumP wr (w.heap.size + 2) v vl (xss.take k) ∧ Below w.heap.size w wr) (fun i _ => xss.length - (intOf i).toNat)
  case atStart => exact ⟨0, .slice none 0 0, [], Nat.zero_le _, rfl, fun j hj => by omega, by simp [matS], by simp [matS], (Var2.new w _ _ _).alloc _, by have h := Var2.new (w.alloc (.cells #[.int .i64 0, .slice none 0 0] 54)) (.int .i64 0) (.slice none 0 0) 54; rw [World.size_alloc] at h; exact h, by rw [List.take_zero]; exact SumP.nil _ _, (by repeat (first | exact Below.refl _ _ | assumption | refine Below.alloc ?_ (by first | exact Nat.le_refl _ | (simp only [World.size_alloc, World.size_setCell, World.size_drew]; omega) | omega) _ | refine Below.setCell ?_ (by first | exact Nat.le_refl _ | (simp only [World.size_alloc, World.size_setCell, World.size_drew]; omega) | omega) _ | refine Below.drew ?_))⟩
  case round =>
    obtain ⟨k, v, vl, hk, rfl, HAD, hm0, hm1, hR, hA, hp, hb⟩ := hrel
    have ⟨av, cv, ev⟩ := hp.form
    obtain ⟨LK, hLK⟩ : ∃ LK, LK = (xss.take k).length := ⟨_, rfl⟩
    rw [← hLK] at ev
    subst ev
    clear hLK
    have hbs := hb.size
    have ⟨⟨zR, cR, dR⟩, fR, gR⟩ := hR
    have ⟨⟨zA, cA, dA⟩, fA, gA⟩ := hA
    have HR := Lib.hid hR
    have HA := Lib.hid hA
    have HP := Lib.hid hp
    by_cases hlt : k < xss.length
    · obtain ⟨b, off, a', cap', rfl, hbl, hc, hr⟩ := (HX.out.below hb).row k hlt
      have k1 : (k : Int) < (xss.length : Int) := by omega
      have hrl := hr.len
      have hrt := row_tot (xss := xss) hlt
      have hrow : (rowL xss k).length ≤ 1048576 := by have := HS.out; omega
      have HRD := Lib.hid hr
      have HT : Hid (xss.take (k+1) = xss.take k ++ [rowL xss k]) := take_snocR hlt
      have HTL : Hid ((xss.take k).length = k) := by rw [Hid, List.length_take]; omega
      have HNR : Hid (∀ j, j < (rowL xss k).length → (∀ i, i < j → 0 ≤ nth (rowL xss k) i) → addB (totI (rowL xss k) j) (nth (rowL xss k) j) = false → adB xss = false) := fun j hj => ad_no_num hlt hj
      have HNM : Hid (addB (matS xss k) (totR (rowL xss k)) = false → adB xss = false) := ad_no_row hlt
      have HNZ : Hid (totR (rowL xss k) = 0 → adB xss = false) := fun h => by
        rw [← Bool.not_eq_true]; intro h2
        have := (adB_row h2 hlt).1; omega
      have HMN : Hid (matS xss (k+1) = matS xss k + totR (rowL xss k)) := rfl
      have HGD : Hid ((∀ j, j < (rowL xss k).length → 0 ≤ nth (rowL xss k) j) → 0 < totR (rowL xss k) → adTo xss (k+1)) := fun h1 h2 i hi => by
        by_cases e : i = k
        · rw [e]; exact ⟨h1, h2⟩
        · exact HAD.out i (by omega)
      obtain ⟨R, hR9⟩ : ∃ R, R = rowL xss k := ⟨_, rfl⟩
      rw [← hR9] at hc hrl hrow HRD HT HNR HNM HNZ HMN HGD
      obtain ⟨M, hM9⟩ : ∃ M, M = matS xss k := ⟨_, rfl⟩
      rw [← hM9] at hm0 hm1 HA cA HNM HMN
      clear hr hrt hR9 hM9 hR hA hp HAD
      obtain ⟨W1, hW1⟩ : ∃ x : World, x = wr := ⟨_, rfl⟩
      subst hW1
      go_wp2_with fail
      go_loopw [18] (fun i wr => ∃ (j : Nat) (u : Value), j ≤ R.length ∧ i = .int .i64 j ∧ Hid (∀ i, i < j → 0 ≤ nth R i) ∧ 0 ≤ totI R j ∧ totI R j ≤ 12 ∧ Var2 wr W1.heap.size (.int .i64 (totI R j)) u ∧ OwnI wr (W1.heap.size + 1) u (R.take j) ∧ Below W1.heap.size W1 wr) (fun i _ => R.length - (intOf i).toNat)
      case atStart => exact ⟨0, .slice none 0 0, Nat.zero_le _, rfl, fun j hj => by omega, by simp [totI], by simp [totI], Var2.new W1 _ _ _, by rw [List.take_zero]; exact OwnI.nil _ _, (by repeat (first | exact Below.refl _ _ | assumption | refine Below.alloc ?_ (by first | exact Nat.le_refl _ | (simp only [World.size_alloc, World.size_setCell, World.size_drew]; omega) | omega) _ | refine Below.setCell ?_ (by first | exact Nat.le_refl _ | (simp only [World.size_alloc, World.size_setCell, World.size_drew]; omega) | omega) _ | refine Below.drew ?_))⟩
      case round =>
        obtain ⟨j, u, hj, rfl, HNN, ht0, ht1, hQ, ho, hbq⟩ := hrel
        have hbqs := hbq.size
        have ⟨⟨zQ, cQ, dQ⟩, fQ, gQ⟩ := hQ
        have hR2 := HR.out.below hbq
        have hA2 := HA.out.below hbq
        have ⟨⟨zR2, cR2, dR2⟩, fR2, gR2⟩ := hR2
        have ⟨⟨zA2, cA2, dA2⟩, fA2, gA2⟩ := hA2
        have HR2 := Lib.hid hR2
        have HA2 := Lib.hid hA2
        clear hR2 hA2
        by_cases hlt2 : j < R.length
        · obtain ⟨b2, off2, rfl, hbl2, hc2⟩ := (HRD.out.below hbq).cell j hlt2
          have j1 : (j : Int) < (R.length : Int) := by omega
          have htk : R.take (j+1) = R.take j ++ [nth R j] := by
            rw [List.take_succ_eq_append_getElem hlt2, nth_get _ _ hlt2]
          have HTK := Lib.hid htk
          have hlj : (R.take j).length ≤ 1048576 := by rw [List.length_take]; omega
          have HTI : Hid (totI R (j+1) = totI R j + nth R j) := rfl
          have HNF := Lib.hid (HNR.out j hlt2 HNN.out)
          obtain ⟨Z, hZ⟩ : ∃ Z, Z = nth R j := ⟨_, rfl⟩
          have HZ := Lib.hid hZ
          rw [← hZ] at hc2 HTK HTI HNF
          obtain ⟨S, hS⟩ : ∃ S, S = totI R j := ⟨_, rfl⟩
          rw [← hS] at ht0 ht1 cQ hQ HTI HNF
          have HQ := Lib.hid hQ
          have HO := Lib.hid ho
          have hPut := iPut_any W1.heap.size S Z u (R.take j) wr HQ.out ⟨ht0, ht1⟩ HO.out hlj
          have HPUT := Lib.hid hPut
          clear htk hZ hS hQ ho hPut
          cases had : addB S Z
          · have H := HNF.out had
            have HF := Lib.hid had
            have HH := Lib.hid H
            clear had H
            go_wp2_with fail
            refine HPUT.out.mono ?_
            rintro e w5 ⟨rfl, v5, hv5, ho5, hb5⟩
            rw [HF.out]
            have b5 : Below W1.heap.size W1 w5 := hbq.trans hb5
            have hR5 := HR.out.below b5
            have hA5 := HA.out.below b5
            have ⟨⟨zR5, cR5, dR5⟩, fR5, gR5⟩ := hR5
            have ⟨⟨zA5, cA5, dA5⟩, fA5, gA5⟩ := hA5
            have bw5 := hb.trans (b5.mono hbs)
            clear hv5 ho5 hb5
            go_wp2_with fail
            have hR7 := hR5.set (.int .i64 M) (.slice av LK cv)
            have b7 := (bw5.setCell (p := ⟨w.heap.size, 0, none⟩) (Nat.le_refl _) (.int .i64 M)).setCell (p := ⟨w.heap.size, 1, none⟩) (Nat.le_refl _) (.slice av LK cv)
            refine bodyPost_ret (v := .tuple #[.agg #[.int .i64 M, .slice av LK cv], .bool false]) (by have ⟨⟨_, q1, q2⟩, _, _⟩ := hR7; simp [results, Try.results48, go_sem, q1, q2]) rfl ?_
            exact ⟨M, av, LK, cv, by rw [HH.out], (by intro h; rw [HH.out] at h; cases h), b7⟩
          · have hge := addB_iff.1 had
            have HF := Lib.hid had
            have HV := Lib.hid (add_ok had)
            clear had HNF
            go_wp2_with fail
            refine HPUT.out.mono ?_
            rintro e w5 ⟨rfl, v5, hv5, ho5, hb5⟩
            rw [HF.out]
            rw [HV.out] at hv5
            have b5 : Below W1.heap.size W1 w5 := hbq.trans hb5
            go_wp2_with fail
            go_roundw
            case rel =>
              refine ⟨j + 1, v5, by omega, by go_num, fun i hi => ?_, by rw [HTI.out]; omega, by rw [HTI.out]; omega, by rw [HTI.out]; exact hv5, by rw [HTK.out]; exact ho5, b5⟩
              by_cases e : i = j
              · rw [e, ← HZ.out]; omega
              · exact HNN.out i (by omega)
            case measure => simp [intOf]; omega
        · obtain rfl : j = R.length := by omega
          have HTR : Hid (totI R R.length = totR R) := rfl
          rw [HTR.out] at ht0 ht1 cQ hQ
          rw [List.take_length] at ho
          obtain ⟨au, cu, rfl⟩ := ho.form
          have HO := Lib.hid ho
          have HP2 := Lib.hid (HP.out.below hbq (Nat.le_refl _))
          obtain ⟨S, hS⟩ : ∃ S, S = totR R := ⟨_, rfl⟩
          have HSS := Lib.hid hS
          rw [← hS] at ht0 ht1 cQ hQ HNM HNZ HMN HGD
          have HQ := Lib.hid hQ
          have hlk : (xss.take k).length ≤ 1048576 := by rw [HTL.out]; have := HS.out; omega
          have bwq := hb.trans (hbq.mono hbs)
          clear hS hQ ho
          by_cases hz : S = 0
          · have hzz : (S == 0) = true := by simp [hz]
            have HH := Lib.hid (HNZ.out hz)
            clear hz
            go_wp2_with fail
            have hR7 := HR2.out.set (.int .i64 M) (.slice av LK cv)
            have b7 := (bwq.setCell (p := ⟨w.heap.size, 0, none⟩) (Nat.le_refl _) (.int .i64 M)).setCell (p := ⟨w.heap.size, 1, none⟩) (Nat.le_refl _) (.slice av LK cv)
            refine bodyPost_ret (v := .tuple #[.agg #[.int .i64 M, .slice av LK cv], .bool false]) (by have ⟨⟨_, q1, q2⟩, _, _⟩ := hR7; simp [results, Try.results48, go_sem, q1, q2]) rfl ?_
            exact ⟨M, av, LK, cv, by rw [HH.out], (by intro h; rw [HH.out] at h; cases h), b7⟩
          · have hzz : (S == 0) = false := by simp [hz]
            have hPut := iPutS_any (w.heap.size + 1) M S (.slice av LK cv) vl (xss.take k) R au cu (w.heap.size + 2) (W1.heap.size + 1) wr HA2.out ⟨hm0, hm1⟩ HP2.out HO.out (by omega) (by omega) (by omega) (fun c e => by have := HP.out.blk.1 c e; omega) (fun i hi c e => by have := HP.out.blk.2 i hi c e; omega) hlk
            rw [← HSS.out] at hPut
            have HPUT := Lib.hid hPut
            clear hPut
            cases had : addB M S
            · have HF := Lib.hid had
              have HH := Lib.hid (HNM.out had)
              clear had hz
              go_wp2_with fail
              refine HPUT.out.mono ?_
              rintro e w5 ⟨rfl, v5, hv5, ho5, hb5⟩
              rw [HF.out]
              have ⟨⟨zA5, cA5, dA5⟩, fA5, gA5⟩ := hv5
              have hR5 : Var2 w5 w.heap.size (.int .i64 0) (.slice none 0 0) := ⟨⟨by have := hb5.size; omega, (hb5.cell (p := ⟨w.heap.size, 0, none⟩) (show w.heap.size < w.heap.size + 1 by omega)).trans cR2, (hb5.cell (p := ⟨w.heap.size, 1, none⟩) (show w.heap.size < w.heap.size + 1 by omega)).trans dR2⟩, (hb5.frozen (p := ⟨w.heap.size, 0, none⟩) (show w.heap.size < w.heap.size + 1 by omega)).trans fR2, (hb5.frozen (p := ⟨w.heap.size, 1, none⟩) (show w.heap.size < w.heap.size + 1 by omega)).trans gR2⟩
              have ⟨⟨zR5, cR5, dR5⟩, fR5, gR5⟩ := hR5
              have bw5 := bwq.trans (hb5.mono (by omega : w.heap.size ≤ w.heap.size + 1))
              obtain ⟨D, hD⟩ : ∃ D, D = addV M S := ⟨_, rfl⟩
              rw [← hD] at cA5
              obtain ⟨a5, c5, e5⟩ := ho5.form
              obtain ⟨L5, hL5⟩ : ∃ L5, L5 = (xss.take k ++ [R]).length := ⟨_, rfl⟩
              rw [← hL5] at e5
              rw [e5] at dA5
              clear hL5 e5
              clear hv5 ho5 hb5 hD
              go_wp2_with fail
              have hR7 := hR5.set (.int .i64 D) (.slice a5 L5 c5)
              have b7 := (bw5.setCell (p := ⟨w.heap.size, 0, none⟩) (Nat.le_refl _) (.int .i64 D)).setCell (p := ⟨w.heap.size, 1, none⟩) (Nat.le_refl _) (.slice a5 L5 c5)
              refine bodyPost_ret (v := .tuple #[.agg #[.int .i64 D, .slice a5 L5 c5], .bool false]) (by have ⟨⟨_, q1, q2⟩, _, _⟩ := hR7; simp [results, Try.results48, go_sem, q1, q2]) rfl ?_
              exact ⟨D, a5, L5, c5, by rw [HH.out], (by intro h; rw [HH.out] at h; cases h), b7⟩
            · have hge := addB_iff.1 had
              have HF := Lib.hid had
              have HV := Lib.hid (add_ok had)
              clear had
              go_wp2_with fail
              refine HPUT.out.mono ?_
              rintro e w5 ⟨rfl, v5, hv5, ho5, hb5⟩
              rw [HF.out]
              rw [HV.out] at hv5
              have hR5 : Var2 w5 w.heap.size (.int .i64 0) (.slice none 0 0) := ⟨⟨by have := hb5.size; omega, (hb5.cell (p := ⟨w.heap.size, 0, none⟩) (show w.heap.size < w.heap.size + 1 by omega)).trans cR2, (hb5.cell (p := ⟨w.heap.size, 1, none⟩) (show w.heap.size < w.heap.size + 1 by omega)).trans dR2⟩, (hb5.frozen (p := ⟨w.heap.size, 0, none⟩) (show w.heap.size < w.heap.size + 1 by omega)).trans fR2, (hb5.frozen (p := ⟨w.heap.size, 1, none⟩) (show w.heap.size < w.heap.size + 1 by omega)).trans gR2⟩
              have bw5 := bwq.trans (hb5.mono (by omega : w.heap.size ≤ w.heap.size + 1))
              have HG2 := Lib.hid (HGD.out HNN.out (by omega))
              go_wp2_with fail
              go_roundw
              case rel => exact ⟨k + 1, v5, _, by omega, by go_num, HG2.out, by rw [HMN.out]; omega, by rw [HMN.out]; omega, hR5, by rw [HMN.out]; exact hv5, by rw [HT.out]; exact ho5, bw5⟩
              case measure => simp [intOf]; omega
    · obtain rfl : k = xss.length := by omega
      have HH : Hid (adB xss = true) := adB_iff.2 ⟨HAD.out, hm1⟩
      obtain ⟨M, hM9⟩ : ∃ M, M = matS xss xss.length := ⟨_, rfl⟩
      have HM := Lib.hid hM9
      rw [← hM9] at hm0 hm1 HA cA
      clear hM9 hR hA hp
      go_wp2_with fail
      have hR7 := HR.out.set (.int .i64 M) (.slice av LK cv)
      have b7 := (hb.setCell (p := ⟨w.heap.size, 0, none⟩) (Nat.le_refl _) (.int .i64 M)).setCell (p := ⟨w.heap.size, 1, none⟩) (Nat.le_refl _) (.slice av LK cv)
      refine bodyPost_ret (v := .tuple #[.agg #[.int .i64 M, .slice av LK cv], .bool true]) (by have ⟨⟨_, q1, q2⟩, _, _⟩ := hR7; simp [results, Try.results48, go_sem, q1, q2]) rfl ?_
      refine ⟨M, av, LK, cv, by rw [HH.out], fun _ => ⟨HM.out, vl, ?_⟩, b7⟩
      have h := HP.out
      rw [List.take_length] at h
      have hset : ∀ (p : Addr) (u : Value) (w9 : World), p.block = w.heap.size → SumP w9 (w.heap.size + 2) (.slice av LK cv) vl xss → SumP (w9.setCell p u) (w.heap.size + 2) (.slice av LK cv) vl xss := fun p u w9 e h =>
        ⟨ownsRow_setCell_below h.own (by rw [e]; omega) u, h.vlen, fun k hk => (h.row k hk).setBelow (by rw [e]; omega) u, h.apart, h.pair⟩
      exact (hset _ _ _ rfl (hset _ _ _ rfl h)).mono (by omega)

set_option maxRecDepth 100000 in
theorem isUpper_any (a : Option Addr) (xss : List (List Int)) (cap : Nat) (w : World) (hx : RdC w a xss) :
    Calls Try.prog 69 #[.agg #[.slice a xss.length cap]] w fun e w' => e = .returned (.bool (upB xss)) ∧ Below w.heap.size w w' := by
  have hlen := hx.rd.len
  have HX := Lib.hid hx
  have b1 : Below w.heap.size w (w.alloc (.cells #[.slice a xss.length cap] 27)) := (by repeat (first | exact Below.refl _ _ | assumption | refine Below.alloc ?_ (by first | exact Nat.le_refl _ | (simp only [World.size_alloc, World.size_setCell, World.size_drew]; omega) | omega) _ | refine Below.setCell ?_ (by first | exact Nat.le_refl _ | (simp only [World.size_alloc, World.size_setCell, World.size_drew]; omega) | omega) _ | refine Below.drew ?_))
  clear hx
  go_enter Try.func69, Try.ntmps69
  go_wp2_with fail
  go_loop [10] (fun i => ∃ k : Nat, k ≤ xss.length ∧ i = .int .i64 k ∧ Hid (∀ j, j < k → (rowL xss j).length = xss.length ∧ ∀ q, q < j → atM xss j q = 0)) (fun i => xss.length - (intOf i).toNat)
  case atStart => exact ⟨0, Nat.zero_le _, rfl, fun j hj => by omega⟩
  case round =>
    obtain ⟨k, hk, rfl, HA⟩ := hrel
    by_cases hlt : k < xss.length
    · obtain ⟨b, off, a', cap', rfl, hbl, hc, hr, hcp⟩ := (HX.out.below b1).row hlt
      have k1 : (k : Int) < (xss.length : Int) := by omega
      by_cases hq : (rowL xss k).length = xss.length
      · have hqq : (((rowL xss k).length : Int) != (xss.length : Int)) = false := by simp [hq]
        have HQ := Lib.hid hq
        obtain ⟨b2, off2, rfl, hbl2, hc2⟩ := hr.cell 0 (by omega)
        have HR := Lib.hid hr
        have k2 : k ≤ cap' := by omega
        have k3 : k ≤ (rowL xss k).length := by omega
        have hrl := hr.len
        clear hq hr hc2
        go_wp2_with fail
        go_loop [25] (fun i => ∃ q : Nat, q ≤ k ∧ i = .int .i64 q ∧ Hid (∀ j, j < q → atM xss k j = 0)) (fun i => k - (intOf i).toNat)
        case atStart => exact ⟨0, Nat.zero_le _, rfl, fun j hj => by omega⟩
        case round =>
          obtain ⟨q, hq2, rfl, HU⟩ := hrel
          by_cases hlt2 : q < k
          · obtain ⟨b3, off3, e3, hbl3, hc3⟩ := HR.out.cell q (by omega)
            simp only [Option.some.injEq, Addr.mk.injEq, and_true] at e3
            obtain ⟨rfl, rfl⟩ := e3
            have q1 : (q : Int) < (k : Int) := by omega
            by_cases hz : nth (rowL xss k) q = 0
            · have hzz : (nth (rowL xss k) q != 0) = false := by simp [hz]
              have HZ : Hid (atM xss k q = 0) := hz
              clear hz
              go_wp2_with fail
              go_round
              case rel =>
                refine ⟨q + 1, by omega, by go_num, fun j hj => ?_⟩
                by_cases e : j = q
                · rw [e]; exact HZ.out
                · exact HU.out j (by omega)
              case measure => simp [intOf]; omega
            · have hzz : (nth (rowL xss k) q != 0) = true := by simp [hz]
              have H : Hid (upB xss = false) := by
                rw [Hid, ← Bool.not_eq_true, upB_iff]
                intro h
                exact hz ((h k hlt).2 q hlt2)
              clear hz
              go_wp2_with fail
              go_ret
              exact ⟨ret_bool H.out.symm, (by repeat (first | exact Below.refl _ _ | assumption | refine Below.alloc ?_ (by first | exact Nat.le_refl _ | (simp only [World.size_alloc, World.size_setCell, World.size_drew]; omega) | omega) _ | refine Below.setCell ?_ (by first | exact Nat.le_refl _ | (simp only [World.size_alloc, World.size_setCell, World.size_drew]; omega) | omega) _ | refine Below.drew ?_))⟩
          · obtain rfl : q = k := by omega
            go_wp2_with fail
            go_round
            case rel =>
              refine ⟨q + 1, by omega, by go_num, fun j hj => ?_⟩
              by_cases e : j = q
              · rw [e]; exact ⟨HQ.out, HU.out⟩
              · exact HA.out j (by omega)
            case measure => simp [intOf]; omega
      · have hqq : (((rowL xss k).length : Int) != (xss.length : Int)) = true := by simp; omega
        have H : Hid (upB xss = false) := by
          rw [Hid, ← Bool.not_eq_true, upB_iff]
          intro h
          exact hq (h k hlt).1
        clear hq hr
        go_wp2_with fail
        go_ret
        exact ⟨ret_bool H.out.symm, (by repeat (first | exact Below.refl _ _ | assumption | refine Below.alloc ?_ (by first | exact Nat.le_refl _ | (simp only [World.size_alloc, World.size_setCell, World.size_drew]; omega) | omega) _ | refine Below.setCell ?_ (by first | exact Nat.le_refl _ | (simp only [World.size_alloc, World.size_setCell, World.size_drew]; omega) | omega) _ | refine Below.drew ?_))⟩
    · obtain rfl : k = xss.length := by omega
      have H : Hid (upB xss = true) := upB_iff.2 HA.out
      go_wp2_with fail
      go_ret
      exact ⟨ret_bool H.out.symm, (by repeat (first | exact Below.refl _ _ | assumption | refine Below.alloc ?_ (by first | exact Nat.le_refl _ | (simp only [World.size_alloc, World.size_setCell, World.size_drew]; omega) | omega) _ | refine Below.setCell ?_ (by first | exact Nat.le_refl _ | (simp only [World.size_alloc, World.size_setCell, World.size_drew]; omega) | omega) _ | refine Below.drew ?_))⟩

def colF (xss : List (List Int)) (k q : Nat) (a b : Nat) : Int := if b < k ∨ (b = k ∧ a < q) then atM xss b a else 0
theorem colsL_sq (xss : List (List Int)) : colsL xss = sqM (fun a b => atM xss b a) xss.length xss.length := rfl
theorem colF_end {xss : List (List Int)} {n : Nat} : sqM (colF xss n 0) n n = sqM (fun a b => atM xss b a) n n :=
  sqM_congr (fun a ha b hb => by rw [colF, if_pos (.inl hb)])
theorem colF_next {xss : List (List Int)} {n k : Nat} : sqM (colF xss k n) n n = sqM (colF xss (k+1) 0) n n :=
  sqM_congr (fun a ha b hb => by
    rw [colF, colF]
    by_cases h : b < k + 1
    · rw [if_pos (by omega), if_pos (.inl h)]
    · rw [if_neg (by omega), if_neg (by omega)])
theorem colF_zero {xss : List (List Int)} {n : Nat} : sqM (fun _ _ => 0) n n = sqM (colF xss 0 0) n n :=
  sqM_congr (fun a ha b hb => by rw [colF, if_neg (by omega)])
theorem colF_step {xss : List (List Int)} {n k q : Nat} (hk : k < n) (hq : q < n) : setM (sqM (colF xss k q) n n) q k (atM xss k q) = sqM (colF xss k (q+1)) n n := by
  rw [setM_sq hq hk]
  refine sqM_congr (fun a ha b hb => ?_)
  rw [colF, colF]
  by_cases h : a = q ∧ b = k
  · obtain ⟨rfl, rfl⟩ := h
    rw [if_pos ⟨rfl, rfl⟩, if_pos (.inr ⟨rfl, by omega⟩)]
  · rw [if_neg h]
    by_cases h2 : b < k ∨ (b = k ∧ a < q)
    · rw [if_pos h2, if_pos (by omega)]
    · rw [if_neg h2, if_neg (by omega)]
set_option maxRecDepth 100000 in
set_option maxHeartbeats 1000000 in
theorem columnsOf_any (a : Option Addr) (xss : List (List Int)) (cap : Nat) (w : World) (hx : RdS w a xss) (h12 : xss.length ≤ 12) (hl : ∀ k, k < xss.length → (rowL xss k).length = xss.length) :
    Calls Try.prog 49 #[.agg #[.slice a xss.length cap]] w fun e w' => ∃ g vl, e = .returned (.slice (some ⟨g, 0, none⟩) xss.length xss.length) ∧ RowsP w' w.heap.size (.slice (some ⟨g, 0, none⟩) xss.length xss.length) vl (colsL xss) ∧ Below w.heap.size w w' := by
  have hlen := hx.len
  have HX := Lib.hid hx
  have HL := Lib.hid hl
  clear hx hl
  go_enter Try.func49, Try.ntmps49
  go_wp2_with fail
  refine (zeroRows_any xss.length _ h12).mono ?_
  rintro e w1 ⟨g, vl0, rfl, hro0, hb0⟩
  have b1 : Below w.heap.size w w1 := Below.trans (by repeat (first | exact Below.refl _ _ | assumption | refine Below.alloc ?_ (by first | exact Nat.le_refl _ | (simp only [World.size_alloc, World.size_setCell, World.size_drew]; omega) | omega) _ | refine Below.setCell ?_ (by first | exact Nat.le_refl _ | (simp only [World.size_alloc, World.size_setCell, World.size_drew]; omega) | omega) _ | refine Below.drew ?_)) (hb0.mono (by first | (simp only [World.size_alloc, World.size_setCell, World.size_drew]; omega) | omega))
  have hro1 := hro0.mono (B' := w.heap.size) (by simp)
  rw [colF_zero (xss := xss)] at hro1
  have hc0 := (hb0.cell (p := ⟨w.heap.size, 0, none⟩) (by simp)).trans (show _ = some (Value.slice a xss.length cap) by simp)
  have hs1 := b1.size
  obtain ⟨N, hN⟩ : ∃ N, N = xss.length := ⟨_, rfl⟩
  have HN := Lib.hid hN
  rw [← hN] at hlen h12 hro1 hc0 ⊢
  have HRO := Lib.hid hro1
  clear hro0 hro1 hb0 hN
  go_wp2_with fail
  go_loopw [15] (fun i wr => ∃ (k : Nat) (vl : List Value), k ≤ N ∧ i = .int .i64 k ∧ RowsP wr w.heap.size (.slice (some ⟨g, 0, none⟩) N N) vl (sqM (colF xss k 0) N N) ∧ Below w.heap.size w wr) (fun i _ => N - (intOf i).toNat)
  case atStart => exact ⟨0, _, Nat.zero_le _, rfl, HRO.out, b1⟩
  case round =>
    obtain ⟨k, vl, hk, rfl, hro, hb⟩ := hrel
    have hbs := hb.size
    have HR := Lib.hid hro
    clear hro
    by_cases hlt : k < N
    · obtain ⟨b, off, a', cap', rfl, hbl, hc, hr⟩ := HX.out.row k (by rw [← HN.out]; exact hlt)
      have hrn := HL.out k (by rw [← HN.out]; exact hlt)
      rw [← HN.out] at hrn
      obtain ⟨b2, off2, rfl, hbl2, hc2⟩ := hr.cell 0 (by omega)
      rw [hrn] at hc
      have hc1 := (hb.cell (p := ⟨b, off + k, none⟩) hbl).trans hc
      have HRN := Lib.hid hrn
      have HRD := Lib.hid hr
      have hbl1 : b < wr.heap.size := by omega
      have k1 : (k : Int) < (N : Int) := by omega
      clear hrn hr hc2 hc
      go_wp2_with fail
      go_loopw [22] (fun i wq => ∃ (q : Nat) (vl : List Value), q ≤ N ∧ i = .int .i64 q ∧ RowsP wq w.heap.size (.slice (some ⟨g, 0, none⟩) N N) vl (sqM (colF xss k q) N N) ∧ Below w.heap.size w wq) (fun i _ => N - (intOf i).toNat)
      case atStart => exact ⟨0, _, Nat.zero_le _, rfl, HR.out, hb⟩
      case round =>
        obtain ⟨q, vl2, hq, rfl, hro2, hb2⟩ := hrel
        by_cases hlt2 : q < N
        · obtain ⟨b3, off3, e3, hbl3, hc3⟩ := (HRD.out.below hb2).cell q (by rw [HRN.out]; exact hlt2)
          simp only [Option.some.injEq, Addr.mk.injEq, and_true] at e3
          obtain ⟨rfl, rfl⟩ := e3
          obtain ⟨g4, e4, hg4, hg5, hc4, hf4⟩ := hro2.outer (k := q) (by rw [sqM_len]; exact hlt2)
          simp only [Option.some.injEq, Addr.mk.injEq, and_true] at e4
          subst e4
          obtain ⟨g6, c6, e6, hg6, hg7, hc6, hf6, hnew⟩ := hro2.num (i := q) (j := k) (by rw [sqM_len]; exact hlt2) (by rw [sqM_rlen hlt2]; exact hlt)
          have hn2 := hnew (atM xss k q)
          rw [colF_step hlt hlt2] at hn2
          rw [e6, sqM_rlen hlt2] at hc4
          have HN2 := Lib.hid hn2
          have q1 : (q : Int) < (N : Int) := by omega
          have hat : nth (rowL xss k) q = atM xss k q := rfl
          rw [hat] at hc3
          have b7 := hb2.setCell (p := ⟨g6, k, none⟩) hg6 (.int .i64 (atM xss k q))
          clear hro2 hnew hn2 hat e6
          go_wp2_with fail
          go_roundw
          case rel => exact ⟨q + 1, vl2, by omega, by go_num, HN2.out, b7⟩
          case measure => simp [intOf]; omega
        · obtain rfl : q = N := by omega
          rw [colF_next] at hro2
          go_wp2_with fail
          go_roundw
          case rel => exact ⟨k + 1, _, by omega, by go_num, hro2, hb2⟩
          case measure => simp [intOf]; omega
    · obtain rfl : k = N := by omega
      have HR2 := HR.out
      rw [colF_end] at HR2
      have HE : Hid (colsL xss = sqM (fun a b => atM xss b a) k k) := by rw [Hid, colsL_sq, ← HN.out]
      have HR3 := Lib.hid HR2
      clear HR2
      go_wp2_with fail
      go_ret
      exact ⟨g, vl, by rw [← HN.out]; rfl, by rw [HE.out, ← HN.out]; exact HR3.out, hb⟩

theorem totS_sq {f : Nat → Nat → Int} {n m : Nat} : ∀ {k : Nat}, k ≤ n → totS (sqM f n m) k = k * m
  | 0, _ => by simp [totS]
  | k+1, h => by rw [totS, totS_sq (by omega), sqM_rlen (by omega), Nat.succ_mul]
theorem sq_small {f : Nat → Nat → Int} {n : Nat} (h : n ≤ 13) : (sqM f n n).length + totS (sqM f n n) (sqM f n n).length ≤ 1048576 := by
  rw [sqM_len, totS_sq (Nat.le_refl _)]
  have := Nat.mul_le_mul h h
  omega
set_option maxRecDepth 100000 in
set_option maxHeartbeats 1000000 in
theorem rowsOf_any (a : Option Addr) (xss : List (List Int)) (cap : Nat) (w : World) (hx : RdC w a xss) (hs : xss.length + totS xss xss.length ≤ 1048576) :
    Calls Try.prog 42 #[.agg #[.slice a xss.length cap]] w fun e w' => ∃ s va vn vc, e = .returned (.tuple #[.agg #[.int .i64 s, .slice va vn vc], .bool (mxB xss)]) ∧ (mxB xss = true → s = matS xss xss.length ∧ ∃ vl, SumP w' w.heap.size (.slice va vn vc) vl xss) ∧ Below w.heap.size w w' := by
  have hlen := hx.rd.len
  have HX := Lib.hid hx
  have HS := Lib.hid hs
  clear hx hs
  go_enter Try.func42, Try.ntmps42
  obtain ⟨W0, hW0⟩ : ∃ x : World, x = (w.alloc (.cells #[.slice a xss.length cap] 27)).alloc (.cells #[.int .i64 0, .slice none 0 0] 54) := ⟨_, rfl⟩
  have HW0 := Lib.hid hW0
  have b0 : Below w.heap.size w W0 := by rw [hW0]; exact (by repeat (first | exact Below.refl _ _ | assumption | refine Below.alloc ?_ (by first | exact Nat.le_refl _ | (simp only [World.size_alloc, World.size_setCell, World.size_drew]; omega) | omega) _ | refine Below.setCell ?_ (by first | exact Nat.le_refl _ | (simp only [World.size_alloc, World.size_setCell, World.size_drew]; omega) | omega) _ | refine Below.drew ?_))
  have c0 : W0.cell? ⟨w.heap.size, 0, none⟩ = some (.slice a xss.length cap) := by rw [hW0]; simp
  have hR0 : Var2 W0 (w.heap.size + 1) (.int .i64 0) (.slice none 0 0) := by
    have h := Var2.new (w.alloc (.cells #[.slice a xss.length cap] 27)) (.int .i64 0) (.slice none 0 0) 54
    rw [World.size_alloc] at h
    rw [hW0]; exact h
  have hz0 : w.heap.size + 2 = W0.heap.size := by rw [hW0]; simp
  have HCALL := Lib.hid (iAddUp_any a xss cap W0 (HX.out.below b0).rd HS.out)
  rw [hW0] at HCALL
  clear hW0
  go_wp2_with fail
  refine HCALL.out.mono ?_
  rintro e w1 ⟨s, va, vn, vc, rfl, hok, hb1⟩
  rw [← HW0.out] at hok hb1
  have b1 : Below w.heap.size w w1 := b0.trans (hb1.mono (by omega))
  have c1 := (hb1.cell (p := ⟨w.heap.size, 0, none⟩) (show w.heap.size < W0.heap.size by omega)).trans c0
  have hR1 := hR0.below hb1
  have hs1 := hb1.size
  clear hb1 b0 c0 hR0 HCALL HW0
  obtain ⟨W2, hW2⟩ : ∃ x : World, x = w1.alloc (.cells #[.int .i64 s, .slice va vn vc] 54) := ⟨_, rfl⟩
  have HW2 := Lib.hid hW2
  have bb2 : Below w1.heap.size w1 W2 := by rw [hW2]; exact (by repeat (first | exact Below.refl _ _ | assumption | refine Below.alloc ?_ (by first | exact Nat.le_refl _ | (simp only [World.size_alloc, World.size_setCell, World.size_drew]; omega) | omega) _ | refine Below.setCell ?_ (by first | exact Nat.le_refl _ | (simp only [World.size_alloc, World.size_setCell, World.size_drew]; omega) | omega) _ | refine Below.drew ?_))
  have b2 : Below w.heap.size w W2 := b1.trans (bb2.mono b1.size)
  have hA2 : Box2 W2 w1.heap.size (.int .i64 s) (.slice va vn vc) := by rw [hW2]; exact Box2.new _ _ _ _
  have hR2 := hR1.below bb2
  have c2 := (bb2.cell (p := ⟨w.heap.size, 0, none⟩) (show w.heap.size < w1.heap.size by omega)).trans c1
  have hs2 : w1.heap.size ≤ W2.heap.size := bb2.size
  clear hR1 c1
  subst hW2
  have ⟨zA2, cA2, dA2⟩ := hA2
  have ⟨⟨zR2, cR2, dR2⟩, fR2, gR2⟩ := hR2
  cases had : adB xss
  · have HF := Lib.hid had
    have HM : Hid (mxB xss = false) := by simp [Hid, mxB, had]
    clear had hok
    go_wp2_with fail
    have hR7 := hR2.set (.int .i64 s) (.slice va vn vc)
    have b7 := (b2.setCell (p := ⟨w.heap.size + 1, 0, none⟩) (by simp) (.int .i64 s)).setCell (p := ⟨w.heap.size + 1, 1, none⟩) (by simp) (.slice va vn vc)
    refine bodyPost_ret (v := .tuple #[.agg #[.int .i64 s, .slice va vn vc], .bool false]) (by have ⟨⟨_, q1, q2⟩, _, _⟩ := hR7; simp [results, Try.results42, go_sem, q1, q2]) rfl ?_
    exact ⟨s, va, vn, vc, by rw [HM.out], (by intro h; rw [HM.out] at h; cases h), b7⟩
  · have HF := Lib.hid had
    have HOK := Lib.hid (hok had)
    have h12 := adB_small had
    clear had hok
    have HUC := Lib.hid (isUpper_any a xss cap _ (HX.out.below b2))
    cases hup : upB xss
    · have HU := Lib.hid hup
      have HM : Hid (mxB xss = false) := by simp [Hid, mxB, hup]
      clear hup
      go_wp2_with fail
      refine HUC.out.mono ?_
      rintro e w3 ⟨rfl, hb3⟩
      rw [HU.out]
      have hA3 := hA2.below hb3
      have hR3 := hR2.below hb3
      have b3 := b2.trans (hb3.mono b2.size)
      have ⟨zA3, cA3, dA3⟩ := hA3
      have ⟨⟨zR3, cR3, dR3⟩, fR3, gR3⟩ := hR3
      clear hb3
      go_wp2_with fail
      have hR7 := hR3.set (.int .i64 s) (.slice va vn vc)
      have b7 := (b3.setCell (p := ⟨w.heap.size + 1, 0, none⟩) (by simp) (.int .i64 s)).setCell (p := ⟨w.heap.size + 1, 1, none⟩) (by simp) (.slice va vn vc)
      refine bodyPost_ret (v := .tuple #[.agg #[.int .i64 s, .slice va vn vc], .bool false]) (by have ⟨⟨_, q1, q2⟩, _, _⟩ := hR7; simp [results, Try.results42, go_sem, q1, q2]) rfl ?_
      exact ⟨s, va, vn, vc, by rw [HM.out], (by intro h; rw [HM.out] at h; cases h), b7⟩
    · have HU := Lib.hid hup
      have HL : Hid (∀ k, k < xss.length → (rowL xss k).length = xss.length) := fun k hk => (upB_iff.1 hup k hk).1
      have HM : Hid (mxB xss = adB (colsL xss)) := by rw [Hid, mxB, HF.out, hup]; rfl
      clear hup
      go_wp2_with fail
      refine HUC.out.mono ?_
      rintro e w3 ⟨rfl, hb3⟩
      rw [HU.out]
      have hA3 := hA2.below hb3
      have hR3 := hR2.below hb3
      have b3 := b2.trans (hb3.mono b2.size)
      have hs3 : w1.heap.size ≤ w3.heap.size := by have := hb3.size; simp at this; omega
      have c3 := (hb3.cell (p := ⟨w.heap.size, 0, none⟩) (by simp; omega)).trans c2
      have ⟨zA3, cA3, dA3⟩ := hA3
      have ⟨⟨zR3, cR3, dR3⟩, fR3, gR3⟩ := hR3
      have bb3 : Below w1.heap.size w1 w3 := bb2.trans (hb3.mono (by simp))
      clear hb3
      go_wp2_with fail
      refine (columnsOf_any a xss cap _ (HX.out.below b3).rd h12 HL.out).mono ?_
      rintro e w4 ⟨g, vlc, rfl, hro, hb4⟩
      have hA4 := hA3.below hb4
      have hR4 := hR3.below hb4
      have b4 := b3.trans (hb4.mono b3.size)
      have hs4 : w3.heap.size ≤ w4.heap.size := hb4.size
      have ⟨zA4, cA4, dA4⟩ := hA4
      have ⟨⟨zR4, cR4, dR4⟩, fR4, gR4⟩ := hR4
      have hAU := iAddUp_any (some ⟨g, 0, none⟩) (colsL xss) xss.length w4 hro.o.rd (by rw [colsL_sq]; exact sq_small (by omega))
      rw [← HM.out, colsL_len] at hAU
      have HAU := Lib.hid hAU
      have bb4 : Below w1.heap.size w1 w4 := bb3.trans (hb4.mono hs3)
      clear hb4 hro hAU
      go_wp2_with fail
      refine HAU.out.mono ?_
      rintro e w5 ⟨s5, va5, vn5, vc5, rfl, _, hb5⟩
      have hA5 := hA4.below hb5
      have hR5 := hR4.below hb5
      have b5 := b4.trans (hb5.mono b4.size)
      have bb5 : Below w1.heap.size w1 w5 := bb4.trans (hb5.mono (by omega))
      have ⟨zA5, cA5, dA5⟩ := hA5
      have ⟨⟨zR5, cR5, dR5⟩, fR5, gR5⟩ := hR5
      have hs5 : w4.heap.size ≤ w5.heap.size := hb5.size
      clear hb5
      go_wp2_with fail
      have hR7 := hR5.set (.int .i64 s) (.slice va vn vc)
      have b7 := (b5.setCell (p := ⟨w.heap.size + 1, 0, none⟩) (by simp) (.int .i64 s)).setCell (p := ⟨w.heap.size + 1, 1, none⟩) (by simp) (.slice va vn vc)
      refine bodyPost_ret (v := .tuple #[.agg #[.int .i64 s, .slice va vn vc], .bool (mxB xss)]) (by have ⟨⟨_, q1, q2⟩, _, _⟩ := hR7; simp [results, Try.results42, go_sem, q1, q2]) rfl ?_
      refine ⟨s, va, vn, vc, rfl, fun _ => ⟨HOK.out.1, ?_⟩, b7⟩
      obtain ⟨vl, hp⟩ := HOK.out.2
      have hp5 := hp.below bb5 (Nat.le_refl _)
      have hset : ∀ (p : Addr) (u : Value) (w9 : World), p.block = w.heap.size + 1 → SumP w9 W0.heap.size (.slice va vn vc) vl xss → SumP (w9.setCell p u) W0.heap.size (.slice va vn vc) vl xss := fun p u w9 e h =>
        ⟨ownsRow_setCell_below h.own (by rw [e]; omega) u, h.vlen, fun k hk => (h.row k hk).setBelow (by rw [e]; omega) u, h.apart, h.pair⟩
      exact ⟨vl, (hset _ _ _ rfl (hset _ _ _ rfl hp5)).mono (by omega)⟩

theorem iIsMatrix_any (a : Option Addr) (xss : List (List Int)) (cap : Nat) (w : World) (hx : RdC w a xss) (hs : xss.length + totS xss xss.length ≤ 1048576) :
    Calls Try.prog 15 #[.agg #[.slice a xss.length cap]] w fun e w' => e = .returned (.bool (mxB xss)) ∧ Below w.heap.size w w' := by
  have hlen := hx.rd.len
  go_enter Try.func15, Try.ntmps15
  go_wp2_with fail
  refine (rowsOf_any _ _ _ _ (hx.below (by repeat (first | exact Below.refl _ _ | assumption | refine Below.alloc ?_ (by first | exact Nat.le_refl _ | (simp only [World.size_alloc, World.size_setCell, World.size_drew]; omega) | omega) _ | refine Below.setCell ?_ (by first | exact Nat.le_refl _ | (simp only [World.size_alloc, World.size_setCell, World.size_drew]; omega) | omega) _ | refine Below.drew ?_))) hs).mono ?_
  rintro e w1 ⟨s, va, vn, vc, rfl, _, hb⟩
  have b1 : Below w.heap.size w w1 := Below.trans (by repeat (first | exact Below.refl _ _ | assumption | refine Below.alloc ?_ (by first | exact Nat.le_refl _ | (simp only [World.size_alloc, World.size_setCell, World.size_drew]; omega) | omega) _ | refine Below.setCell ?_ (by first | exact Nat.le_refl _ | (simp only [World.size_alloc, World.size_setCell, World.size_drew]; omega) | omega) _ | refine Below.drew ?_)) (hb.mono (by first | (simp only [World.size_alloc, World.size_setCell, World.size_drew]; omega) | omega))
  clear hb
  go_wp2_with fail
  go_ret
  exact ⟨rfl, b1.alloc b1.size _⟩

theorem ret_ib' {a a' : Int} {b b' : Bool} (h1 : a = a') (h2 : b = b') : Ending.returned (.tuple #[.int .i64 a, .bool b]) = .returned (.tuple #[.int .i64 a', .bool b']) := by rw [h1, h2]

theorem sTopMx_any (a : Option Addr) (xss : List (List Int)) (cap : Nat) (w : World) (hx : RdC w a xss) (hs : xss.length + totS xss xss.length ≤ 1048576) :
    Calls Try.prog 19 #[.agg #[.slice a xss.length cap]] w fun e w' => e = .returned (.tuple #[.int .i64 (topV xss), .bool (topB xss)]) ∧ Below w.heap.size w w' := by
  have hlen := hx.rd.len
  cases hm : mxB xss
  · have HM := Lib.hid hm
    have H2 : Hid (topB xss = false) := by simp [Hid, topB, hm]
    have H1 : Hid (topV xss = 0) := by rw [Hid, topV, H2.out]; rfl
    clear hm
    go_enter Try.func19, Try.ntmps19
    go_wp2_with fail
    refine (maGood_any _ _ _ _ (hx.rd.below (by repeat (first | exact Below.refl _ _ | assumption | refine Below.alloc ?_ (by first | exact Nat.le_refl _ | (simp only [World.size_alloc, World.size_setCell, World.size_drew]; omega) | omega) _ | refine Below.setCell ?_ (by first | exact Nat.le_refl _ | (simp only [World.size_alloc, World.size_setCell, World.size_drew]; omega) | omega) _ | refine Below.drew ?_)))).mono ?_
    rintro e w1 ⟨rfl, hb⟩
    rw [HM.out]
    go_wp2_with fail
    go_ret2
    exact ⟨ret_ib' H1.out.symm H2.out.symm, Below.trans (by repeat (first | exact Below.refl _ _ | assumption | refine Below.alloc ?_ (by first | exact Nat.le_refl _ | (simp only [World.size_alloc, World.size_setCell, World.size_drew]; omega) | omega) _ | refine Below.setCell ?_ (by first | exact Nat.le_refl _ | (simp only [World.size_alloc, World.size_setCell, World.size_drew]; omega) | omega) _ | refine Below.drew ?_)) (hb.mono (by first | (simp only [World.size_alloc, World.size_setCell, World.size_drew]; omega) | omega))⟩
  · have HM := Lib.hid hm
    clear hm
    by_cases h0 : xss.length = 0
    · have h00 : ((xss.length : Int) == 0) = true := by simp [h0]
      have H2 : Hid (topB xss = false) := by simp [Hid, topB, h0]
      have H1 : Hid (topV xss = 0) := by rw [Hid, topV, H2.out]; rfl
      clear h0
      go_enter Try.func19, Try.ntmps19
      go_wp2_with fail
      refine (maGood_any _ _ _ _ (hx.rd.below (by repeat (first | exact Below.refl _ _ | assumption | refine Below.alloc ?_ (by first | exact Nat.le_refl _ | (simp only [World.size_alloc, World.size_setCell, World.size_drew]; omega) | omega) _ | refine Below.setCell ?_ (by first | exact Nat.le_refl _ | (simp only [World.size_alloc, World.size_setCell, World.size_drew]; omega) | omega) _ | refine Below.drew ?_)))).mono ?_
      rintro e w1 ⟨rfl, hb⟩
      rw [HM.out]
      have ⟨hc, hf⟩ := bcell hb
      have b1 : Below w.heap.size w w1 := Below.trans (by repeat (first | exact Below.refl _ _ | assumption | refine Below.alloc ?_ (by first | exact Nat.le_refl _ | (simp only [World.size_alloc, World.size_setCell, World.size_drew]; omega) | omega) _ | refine Below.setCell ?_ (by first | exact Nat.le_refl _ | (simp only [World.size_alloc, World.size_setCell, World.size_drew]; omega) | omega) _ | refine Below.drew ?_)) (hb.mono (by first | (simp only [World.size_alloc, World.size_setCell, World.size_drew]; omega) | omega))
      clear hb
      have hc0 := (hc w.heap.size 0 (by simp)).trans (show _ = some (Value.slice a xss.length cap) by simp)
      go_wp2_with fail
      go_ret2
      exact ⟨ret_ib' H1.out.symm H2.out.symm, b1⟩
    · have h00 : ((xss.length : Int) == 0) = false := by simp only [beq_eq_false_iff_ne, ne_eq]; omega
      have H2 : Hid (topB xss = true) := by simp only [Hid, topB, HM.out, Bool.true_and, decide_eq_true_eq]; exact h0
      have H1 : Hid (topV xss = topI xss) := by rw [Hid, topV, H2.out, topI, if_neg h0]; rfl
      clear h0
      go_enter Try.func19, Try.ntmps19
      go_wp2_with fail
      refine (maGood_any _ _ _ _ (hx.rd.below (by repeat (first | exact Below.refl _ _ | assumption | refine Below.alloc ?_ (by first | exact Nat.le_refl _ | (simp only [World.size_alloc, World.size_setCell, World.size_drew]; omega) | omega) _ | refine Below.setCell ?_ (by first | exact Nat.le_refl _ | (simp only [World.size_alloc, World.size_setCell, World.size_drew]; omega) | omega) _ | refine Below.drew ?_)))).mono ?_
      rintro e w1 ⟨rfl, hb⟩
      rw [HM.out]
      have ⟨hc, hf⟩ := bcell hb
      have b1 : Below w.heap.size w w1 := Below.trans (by repeat (first | exact Below.refl _ _ | assumption | refine Below.alloc ?_ (by first | exact Nat.le_refl _ | (simp only [World.size_alloc, World.size_setCell, World.size_drew]; omega) | omega) _ | refine Below.setCell ?_ (by first | exact Nat.le_refl _ | (simp only [World.size_alloc, World.size_setCell, World.size_drew]; omega) | omega) _ | refine Below.drew ?_)) (hb.mono (by first | (simp only [World.size_alloc, World.size_setCell, World.size_drew]; omega) | omega))
      clear hb
      have hc0 := (hc w.heap.size 0 (by simp)).trans (show _ = some (Value.slice a xss.length cap) by simp)
      have hs1 := b1.size
      go_wp2_with fail
      refine (maTop_any _ _ _ _ (hx.rd.below b1) HM.out).mono ?_
      rintro e w2 ⟨rfl, hb2⟩
      go_wp2_with fail
      go_ret2
      exact ⟨ret_ib' H1.out.symm H2.out.symm, b1.trans (hb2.mono hs1)⟩

set_option maxRecDepth 100000 in
theorem iTopMx_any (a : Option Addr) (xss : List (List Int)) (cap : Nat) (w : World) (hx : RdC w a xss) (hs : xss.length + totS xss xss.length ≤ 1048576) :
    Calls Try.prog 20 #[.agg #[.slice a xss.length cap]] w fun e w' => e = .returned (.tuple #[.int .i64 (topV xss), .bool (topB xss)]) ∧ Below w.heap.size w w' := by
  have hlen := hx.rd.len
  have HX := Lib.hid hx
  have HCL := Lib.hid (fun W (h : RdC W a xss) => iIsMatrix_any a xss cap W h hs)
  cases hm : mxB xss
  · have HM := Lib.hid hm
    have H2 : Hid (topB xss = false) := by simp [Hid, topB, hm]
    have H1 : Hid (topV xss = 0) := by rw [Hid, topV, H2.out]; rfl
    clear hm
    go_enter Try.func20, Try.ntmps20
    go_wp2_with fail
    refine (HCL.out _ (hx.below (by repeat (first | exact Below.refl _ _ | assumption | refine Below.alloc ?_ (by first | exact Nat.le_refl _ | (simp only [World.size_alloc, World.size_setCell, World.size_drew]; omega) | omega) _ | refine Below.setCell ?_ (by first | exact Nat.le_refl _ | (simp only [World.size_alloc, World.size_setCell, World.size_drew]; omega) | omega) _ | refine Below.drew ?_)))).mono ?_
    rintro e w1 ⟨rfl, hb⟩
    rw [HM.out]
    have b1 : Below w.heap.size w w1 := Below.trans (by repeat (first | exact Below.refl _ _ | assumption | refine Below.alloc ?_ (by first | exact Nat.le_refl _ | (simp only [World.size_alloc, World.size_setCell, World.size_drew]; omega) | omega) _ | refine Below.setCell ?_ (by first | exact Nat.le_refl _ | (simp only [World.size_alloc, World.size_setCell, World.size_drew]; omega) | omega) _ | refine Below.drew ?_)) (hb.mono (by first | (simp only [World.size_alloc, World.size_setCell, World.size_drew]; omega) | omega))
    clear hb
    go_wp2_with fail
    go_ret2
    exact ⟨ret_ib' H1.out.symm H2.out.symm, b1⟩
  · have HM := Lib.hid hm
    have h12 := mxB_small hm
    clear hm
    by_cases h0 : xss.length = 0
    · have h00 : ((xss.length : Int) == 0) = true := by simp [h0]
      have H2 : Hid (topB xss = false) := by simp [Hid, topB, h0]
      have H1 : Hid (topV xss = 0) := by rw [Hid, topV, H2.out]; rfl
      clear h0
      go_enter Try.func20, Try.ntmps20
      go_wp2_with fail
      refine (HCL.out _ (hx.below (by repeat (first | exact Below.refl _ _ | assumption | refine Below.alloc ?_ (by first | exact Nat.le_refl _ | (simp only [World.size_alloc, World.size_setCell, World.size_drew]; omega) | omega) _ | refine Below.setCell ?_ (by first | exact Nat.le_refl _ | (simp only [World.size_alloc, World.size_setCell, World.size_drew]; omega) | omega) _ | refine Below.drew ?_)))).mono ?_
      rintro e w1 ⟨rfl, hb⟩
      rw [HM.out]
      have b1 : Below w.heap.size w w1 := Below.trans (by repeat (first | exact Below.refl _ _ | assumption | refine Below.alloc ?_ (by first | exact Nat.le_refl _ | (simp only [World.size_alloc, World.size_setCell, World.size_drew]; omega) | omega) _ | refine Below.setCell ?_ (by first | exact Nat.le_refl _ | (simp only [World.size_alloc, World.size_setCell, World.size_drew]; omega) | omega) _ | refine Below.drew ?_)) (hb.mono (by first | (simp only [World.size_alloc, World.size_setCell, World.size_drew]; omega) | omega))
      have hc0 := (hb.cell (p := ⟨w.heap.size, 0, none⟩) (by simp)).trans (show _ = some (Value.slice a xss.length cap) by simp)
      clear hb
      go_wp2_with fail
      go_ret2
      exact ⟨ret_ib' H1.out.symm H2.out.symm, b1⟩
    · have h00 : ((xss.length : Int) == 0) = false := by simp only [beq_eq_false_iff_ne, ne_eq]; omega
      have H2 : Hid (topB xss = true) := by simp only [Hid, topB, HM.out, Bool.true_and, decide_eq_true_eq]; exact h0
      have H1 : Hid (topV xss = ((topN xss : Nat) : Int)) := by rw [Hid, topV, H2.out]; rfl
      have hpos : 1 ≤ xss.length := by omega
      have htl := topN_lt HM.out (by omega)
      have HZ : Hid (∀ j, j < topN xss → atM xss j (xss.length - 1) = 0) := fun j hj => topN_zero hj
      have HNE := Lib.hid (topN_ne HM.out (by omega))
      obtain ⟨T, hT⟩ : ∃ T, T = topN xss := ⟨_, rfl⟩
      rw [← hT] at H1 htl HZ HNE
      clear h0 hT
      go_enter Try.func20, Try.ntmps20
      go_wp2_with fail
      refine (HCL.out _ (hx.below (by repeat (first | exact Below.refl _ _ | assumption | refine Below.alloc ?_ (by first | exact Nat.le_refl _ | (simp only [World.size_alloc, World.size_setCell, World.size_drew]; omega) | omega) _ | refine Below.setCell ?_ (by first | exact Nat.le_refl _ | (simp only [World.size_alloc, World.size_setCell, World.size_drew]; omega) | omega) _ | refine Below.drew ?_)))).mono ?_
      rintro e w1 ⟨rfl, hb⟩
      rw [HM.out]
      have b1 : Below w.heap.size w w1 := Below.trans (by repeat (first | exact Below.refl _ _ | assumption | refine Below.alloc ?_ (by first | exact Nat.le_refl _ | (simp only [World.size_alloc, World.size_setCell, World.size_drew]; omega) | omega) _ | refine Below.setCell ?_ (by first | exact Nat.le_refl _ | (simp only [World.size_alloc, World.size_setCell, World.size_drew]; omega) | omega) _ | refine Below.drew ?_)) (hb.mono (by first | (simp only [World.size_alloc, World.size_setCell, World.size_drew]; omega) | omega))
      have hc0 := (hb.cell (p := ⟨w.heap.size, 0, none⟩) (by simp)).trans (show _ = some (Value.slice a xss.length cap) by simp)
      have hcast : ((xss.length : Int) - 1) = ((xss.length - 1 : Nat) : Int) := by omega
      have hrow : ∀ (k : Nat) (W : World), k < xss.length → Below w.heap.size w W → ∃ b off b2 off2 cap', a = some ⟨b, off, none⟩ ∧ W.cell? ⟨b, off + k, none⟩ = some (.slice (some ⟨b2, off2, none⟩) xss.length cap') ∧ W.cell? ⟨b2, off2 + (xss.length - 1), none⟩ = some (.int .i64 (atM xss k (xss.length - 1))) ∧ b < W.heap.size ∧ b2 < W.heap.size := by
        intro k W hk hbW
        obtain ⟨b, off, a', cap', e1, hbl, hc, hr, _⟩ := (HX.out.below hbW).row hk
        have hl := mxB_len HM.out hk
        obtain ⟨b2, off2, e2, hbl2, hc2⟩ := hr.cell (xss.length - 1) (by omega)
        rw [hl, e2] at hc
        exact ⟨b, off, b2, off2, cap', e1, hc, hc2, hbl, hbl2⟩
      have HROW := Lib.hid hrow
      clear hb hx hrow
      go_wp2_with fail
      go_region
      all_goals
        have hdr : Below w.heap.size w (w1.drew) := b1.drew
        go_wp2_with fail
        go_loop [4] (fun i => ∃ k : Nat, k ≤ T ∧ i = .int .i64 k) (fun i => T + 1 - (intOf i).toNat)
        case atStart => exact ⟨0, Nat.zero_le _, rfl⟩
        case round =>
          obtain ⟨k, hk, rfl⟩ := hrel
          obtain ⟨b, off, b2, off2, cap', rfl, hc, hc2, hbl, hbl2⟩ := HROW.out k _ (by omega) hdr
          have k1 : (k : Int) < (xss.length : Int) := by omega
          by_cases hlt : k < T
          · have hz := HZ.out k hlt
            rw [hz] at hc2
            have hzz : ((0 : Int) == 0) = true := rfl
            clear hz
            go_wp2_with fail
            go_round
            case rel => exact ⟨k + 1, by omega, by go_num⟩
            case measure => simp [intOf]; omega
          · obtain rfl : k = T := by omega
            have hz := HNE.out
            obtain ⟨Z, hZ⟩ : ∃ Z, Z = atM xss k (xss.length - 1) := ⟨_, rfl⟩
            rw [← hZ] at hz hc2
            have hzz : (Z == 0) = false := by simp [hz]
            clear hz hZ
            go_wp2_with fail
            go_ret2
            exact ⟨ret_ib' H1.out.symm H2.out.symm, hdr⟩

set_option maxRecDepth 100000 in
set_option maxHeartbeats 1000000 in
theorem iShrink_any (a : Option Addr) (xss : List (List Int)) (cap : Nat) (w : World) (hx : RdC w a xss) (hs : xss.length + totS xss xss.length ≤ 1048576) :
    Calls Try.prog 35 #[.agg #[.slice a xss.length cap]] w fun e w' => ∃ a0 c0 vl, e = .returned (.tuple #[.agg #[.slice a0 (shL xss).length c0], .int .i64 (topV xss), .bool (topB xss)]) ∧ RowsP w' w.heap.size (.slice a0 (shL xss).length c0) vl (shL xss) ∧ Below w.heap.size w w' := by
  have hlen := hx.rd.len
  have hV := Var1.new (w.alloc (.cells #[.slice a xss.length cap] 27)) (.slice none 0 0) 27
  have hb0 : Below w.heap.size w ((w.alloc (.cells #[.slice a xss.length cap] 27)).alloc (.cells #[.slice none 0 0] 27)) := (by repeat (first | exact Below.refl _ _ | assumption | refine Below.alloc ?_ (by first | exact Nat.le_refl _ | (simp only [World.size_alloc, World.size_setCell, World.size_drew]; omega) | omega) _ | refine Below.setCell ?_ (by first | exact Nat.le_refl _ | (simp only [World.size_alloc, World.size_setCell, World.size_drew]; omega) | omega) _ | refine Below.drew ?_))
  rw [World.size_alloc] at hV
  have HCL := Lib.hid (fun W (h : RdC W a xss) => iTopMx_any a xss cap W h hs)
  cases hm : topB xss
  · have HM := Lib.hid hm
    have H1 : Hid (shL xss = []) := by simp [Hid, shL, hm]
    have H2 : Hid (topV xss = 0) := by rw [Hid, topV, hm]; rfl
    clear hm
    go_enter Try.func35, Try.ntmps35
    go_wp2_with fail
    refine (HCL.out _ (hx.below hb0)).mono ?_
    rintro e w1 ⟨rfl, hb⟩
    rw [HM.out, H2.out]
    have b1 : Below w.heap.size w w1 := hb0.trans (hb.mono (by simp; omega))
    have hV1 := hV.below hb
    have ⟨⟨zV, cV⟩, fV⟩ := hV1
    clear hb hV
    go_wp2_with fail
    have hV2 := hV1.set (.slice none 0 0)
    have b2 := b1.setCell (p := ⟨w.heap.size + 1, 0, none⟩) (by simp) (.slice none 0 0)
    refine bodyPost_ret (v := .tuple #[.agg #[.slice none 0 0], .int .i64 0, .bool false]) (by have ⟨⟨_, q1⟩, _⟩ := hV2; simp [results, Try.results35, go_sem, q1]) rfl ?_
    exact ⟨none, 0, [], by rw [H1.out, H2.out]; rfl, by rw [H1.out]; exact RowsP.nil _ _, b2⟩
  · have HM := Lib.hid hm
    have ⟨hmx, hpos⟩ := topB_mx hm
    have h12 := mxB_small hmx
    have HMX := Lib.hid hmx
    have htl := topN_lt hmx hpos
    have H2 : Hid (topV xss = ((topN xss : Nat) : Int)) := by rw [Hid, topV, hm]; rfl
    have HE := Lib.hid (mx_eta hmx)
    have HNB := Lib.hid (mxB_num hmx htl (j := xss.length - 1) (by omega))
    have HSH : Hid (shL xss = if totR (rowL xss (topN xss)) = 1 then sqM (shF (decF (atM xss) xss.length (topN xss)) xss.length (topN xss)) (xss.length - 1) (xss.length - 1) else sqM (decF (atM xss) xss.length (topN xss)) xss.length xss.length) := by rw [Hid, shL, if_pos hm, shF_dec]
    have HRC := Lib.hid (fun W (h : RdC W a xss) => rowsOf_any a xss cap W h hs)
    obtain ⟨T, hT⟩ : ∃ T, T = topN xss := ⟨_, rfl⟩
    have HT := Lib.hid hT
    rw [← hT] at htl H2 HSH HNB
    have HX := Lib.hid hx
    clear hm hmx hx hT hs
    go_enter Try.func35, Try.ntmps35
    go_wp2_with fail
    refine (HCL.out _ (HX.out.below hb0)).mono ?_
    rintro e w1 ⟨rfl, hb⟩
    rw [HM.out, H2.out]
    have b1 : Below w.heap.size w w1 := hb0.trans (hb.mono (by simp; omega))
    have hV1 := hV.below hb
    have hc1 := (hb.cell (p := ⟨w.heap.size, 0, none⟩) (by simp; omega)).trans (show _ = some (Value.slice a xss.length cap) by simp)
    have hz1 : w.heap.size + 2 ≤ w1.heap.size := by have := hb.size; simp at this; omega
    clear hb hV hb0 HCL
    go_wp2_with fail
    refine (HRC.out _ (HX.out.below b1)).mono ?_
    rintro e w2 ⟨s, va, vn, vc, rfl, hok, hb2⟩
    rw [HMX.out]
    obtain ⟨vl, hp⟩ := (hok HMX.out).2
    obtain rfl := hp.vn
    have b2 := b1.trans (hb2.mono b1.size)
    have hV2 := (hV1.below hb2).alloc (.cells #[.int .i64 s, .slice va xss.length vc] 54)
    have b2' := b2.alloc b2.size (.cells #[.int .i64 s, .slice va xss.length vc] 54)
    have hP2 := Box2.new w2 (.int .i64 s) (.slice va xss.length vc) 54
    have hz2 : w.heap.size + 2 ≤ w2.heap.size := by have := hb2.size; omega
    have hp2 := hp.below ((Below.refl _ _).alloc (Nat.le_refl _) (.cells #[.int .i64 s, .slice va xss.length vc] 54)) (Nat.le_refl _)
    have HNUM := Lib.hid (numbersOf_any s va vc _ vl xss (w2.alloc (.cells #[.int .i64 s, .slice va xss.length vc] 54)) hp2 (by simp; have := hb2.size; omega) (by omega))
    have HP2 := Lib.hid hp2
    have HV2 := Lib.hid hV2
    have ⟨zP2, cP2, dP2⟩ := hP2
    have HPB := Lib.hid hp.blk
    clear hb2 hok hp hV1 HRC b2 hp2 hV2 hc1
    go_wp2_with fail
    refine HNUM.out.mono ?_
    rintro e w3 ⟨g, rfl, hro, hb3⟩
    have b3 := b2'.trans (hb3.mono b2'.size)
    have hP3 := hP2.below hb3
    have HV3 := Lib.hid (HV2.out.below hb3)
    have hp3 := HP2.out.below hb3 (Nat.le_refl _)
    obtain ⟨gp, rfl, hgp, hcs, _⟩ := hp3.at (k := T) htl
    have hvT := hp3.apart T htl
    have hro2 := hro.mono (B' := w.heap.size + 2) hz1
    obtain ⟨g6, c6, e6, hg6, hg7, hc6, hf6, hnew⟩ := hro2.num (i := T) (j := xss.length - 1) htl (by rw [mxB_len HMX.out htl]; omega)
    have hgne : gp ≠ g6 := fun h => hvT g6 (by rw [e6]; rfl) (by rw [h]; rfl)
    obtain ⟨g4, e4, hg4, hg5, hc4, hf4⟩ := hro2.outer (k := T) htl
    simp only [Option.some.injEq, Addr.mk.injEq, and_true] at e4
    subst e4
    have hg7ne : g6 ≠ w2.heap.size := fun h => by
      have h1 := HPB.out.2 T htl g6 (by rw [e6]; rfl)
      omega
    rw [e6, mxB_len HMX.out htl] at hc4
    have hset := hnew (atM xss T (xss.length - 1) - 1)
    have hmat : setM xss T (xss.length - 1) (atM xss T (xss.length - 1) - 1) = sqM (decF (atM xss) xss.length T) xss.length xss.length := by
      have h := setM_sq (f := atM xss) (n := xss.length) (m := xss.length) (i := T) (j := xss.length - 1) (x := atM xss T (xss.length - 1) - 1) htl (by omega)
      rw [← HE.out] at h
      rw [h]
      exact sqM_congr (fun p hp q hq => by rw [decF])
    rw [hmat] at hset
    have b4 := b3.setCell (p := ⟨g6, xss.length - 1, none⟩) (show w.heap.size ≤ g6 by omega) (.int .i64 (atM xss T (xss.length - 1) - 1))
    have hV4 := HV3.out.other (p := ⟨g6, xss.length - 1, none⟩) (.int .i64 (atM xss T (xss.length - 1) - 1)) (show w.heap.size + 1 ≠ g6 by omega)
    have hP4 := hP3.set (p := ⟨g6, xss.length - 1, none⟩) (.int .i64 (atM xss T (xss.length - 1) - 1)) (show w2.heap.size ≠ g6 by omega)
    have ⟨zP3, cP3, dP3⟩ := hP3
    have ⟨hz0, hz9⟩ := HNB.out
    obtain ⟨Z, hZ⟩ : ∃ Z, Z = atM xss T (xss.length - 1) := ⟨_, rfl⟩
    rw [← hZ] at hc6 hset b4 hV4 hP4 hz0 hz9
    obtain ⟨S, hS⟩ : ∃ S, S = totR (rowL xss T) := ⟨_, rfl⟩
    rw [← hS] at hcs HSH
    obtain ⟨N, hN⟩ : ∃ N, N = xss.length := ⟨_, rfl⟩
    have HN := Lib.hid hN
    rw [← hN] at hlen h12 htl hpos hc6 hf6 hc4 hset b4 hV4 hP4 HSH dP3 ⊢
    have hcast : ((N : Int) - 1) = ((N - 1 : Nat) : Int) := by omega
    have hN1 : N - 1 < N := by omega
    have HS4 := Lib.hid hset
    have HV4 := Lib.hid hV4
    have ⟨zP4, cP4, dP4⟩ := hP4
    have hcs4 : (w3.setCell ⟨g6, N - 1, none⟩ (.int .i64 (Z - 1))).cell? ⟨gp, T * 2, none⟩ = some (.int .i64 S) := (World.cell?_setCell_other _ _ _ _ (by intro h9; exact hgne (congrArg Addr.block h9).symm)).trans hcs
    clear hro hro2 hnew hvT hp3 hP3 hb3 HNUM hP2 hset hV4 e6 hmat hZ hS hN cP2 dP2 hP4
    have hws : w.heap.size + 2 ≤ (w3.setCell ⟨g6, N - 1, none⟩ (.int .i64 (Z - 1))).heap.size := by have := b3.size; simp; omega
    by_cases hS1 : S = 1
    · have hSS : (S == 1) = true := by simp [hS1]
      rw [if_pos hS1] at HSH
      have HTK := Lib.hid (takeOut_any g N (w.heap.size + 2) N T vl (decF (atM xss) N T) _ HS4.out htl hws h12 (Nat.le_refl _) (by omega))
      clear hS1
      go_wp2_with fail
      refine HTK.out.mono ?_
      rintro e w5 ⟨ul, rfl, hro5, hb5⟩
      have b5 := b4.trans (hb5.mono (by omega : w.heap.size ≤ w.heap.size + 2))
      have hV5 : Var1 w5 (w.heap.size + 1) (.slice none 0 0) := ⟨⟨by have := hb5.size; omega, (hb5.cell (p := ⟨w.heap.size + 1, 0, none⟩) (show w.heap.size + 1 < w.heap.size + 2 by omega)).trans HV4.out.1.2⟩, (hb5.frozen (p := ⟨w.heap.size + 1, 0, none⟩) (show w.heap.size + 1 < w.heap.size + 2 by omega)).trans HV4.out.2⟩
      have ⟨⟨zV5, cV5⟩, fV5⟩ := hV5
      have HR5 := Lib.hid hro5
      have HV5 := Lib.hid hV5
      clear hro5 hb5 hV5 HTK
      go_wp2_with fail
      have hV6 := HV5.out.set (.slice (some ⟨g, 0, none⟩) (N - 1) N)
      have b6 := b5.setCell (p := ⟨w.heap.size + 1, 0, none⟩) (by simp) (.slice (some ⟨g, 0, none⟩) (N - 1) N)
      refine bodyPost_ret (v := .tuple #[.agg #[.slice (some ⟨g, 0, none⟩) (N - 1) N], .int .i64 (T : Int), .bool true]) (by have ⟨⟨_, q1⟩, _⟩ := hV6; simp [results, Try.results35, go_sem, q1]) rfl ?_
      exact ⟨some ⟨g, 0, none⟩, N, ul, by rw [HSH.out, H2.out, sqM_len], by rw [HSH.out, sqM_len]; exact (HR5.out.setBelow (show w.heap.size + 1 < w.heap.size + 2 by omega) _).mono (by omega), b6⟩
    · have hSS : (S == 1) = false := by simp [hS1]
      rw [if_neg hS1] at HSH
      have ⟨⟨zV5, cV5⟩, fV5⟩ := HV4.out
      clear hS1
      go_wp2_with fail
      have hV6 := HV4.out.set (.slice (some ⟨g, 0, none⟩) N N)
      have b6 := b4.setCell (p := ⟨w.heap.size + 1, 0, none⟩) (by simp) (.slice (some ⟨g, 0, none⟩) N N)
      refine bodyPost_ret (v := .tuple #[.agg #[.slice (some ⟨g, 0, none⟩) N N], .int .i64 (T : Int), .bool true]) (by have ⟨⟨_, q1⟩, _⟩ := hV6; simp [results, Try.results35, go_sem, q1]) rfl ?_
      exact ⟨some ⟨g, 0, none⟩, N, vl, by rw [HSH.out, H2.out, sqM_len], by rw [HSH.out, sqM_len]; exact (HS4.out.setBelow (show w.heap.size + 1 < w.heap.size + 2 by omega) _).mono (by omega), b6⟩

theorem markIntS_any (a : Option Addr) (xs : List Int) (cap : Nat) (k : Int) (B : Nat) (w : World) (h0 : 0 ≤ k) (h1 : k ≤ 1099511627776) (hn : xs.length ≤ 1048576) (ho : OwnI w B (.slice a xs.length cap) xs) :
    Calls Try.prog 25 #[.slice a xs.length cap, .int .i64 k] w fun e w' => e = .returned (.int .i64 (k + xs.length)) ∧ OwnI w' B (.slice a xs.length cap) (marks k xs.length) ∧ w.grownBy w' (Value.slice a xs.length cap).ownBlock := by
  go_enter Try.func25, Try.ntmps25
  go_wp2_with fail
  go_loopw [1, 5] (fun k' i wr => ∃ j : Nat, j ≤ xs.length ∧ i = .int .i64 j ∧ k' = .int .i64 (k + j) ∧ wr.ownsRow B 3 1 (.slice a xs.length cap) xs.length ((marks k j ++ xs.drop j).map (Value.int .i64)) ∧ w.grownBy wr (Value.slice a xs.length cap).ownBlock) (fun _ i _ => xs.length - (intOf i).toNat)
  case atStart => exact ⟨0, Nat.zero_le _, rfl, by simp, by (have e : marks k 0 ++ xs.drop 0 = xs := by simp [marks]); rw [e]; exact ho, World.grownBy.refl _ _⟩
  case round =>
    obtain ⟨j, hj, rfl, rfl, hown, hg⟩ := hrel
    by_cases hlt : j < xs.length
    · obtain ⟨g, rfl⟩ : ∃ g, a = some ⟨g, 0, none⟩ := by
        rcases hown.2 with ⟨e, h⟩ | ⟨g, c, cur, e, _⟩
        · omega
        · simp only [Value.slice.injEq] at e
          exact ⟨g, e.1⟩
      have hst := World.ownsRow.stored hown j (.int .i64 (k + j))
      rw [mark_step k xs j hlt] at hst
      have hcc := World.ownsRow.cellAt hown j (by omega)
      have hfr := World.ownsRow.frozenAt hown j
      have hcc' : ∃ u, wr.cell? ⟨g, j, none⟩ = some u := by
        rw [hcc]
        exact ⟨_, List.getElem?_eq_getElem (by simp [marks_len]; omega)⟩
      obtain ⟨u, hu⟩ := hcc'
      have Hst := Lib.hid hst
      have Hg := Lib.hid (grown_trans hg hst.2)
      clear hst hcc hown hg
      go_wp2
      go_roundw
      case rel => exact ⟨j + 1, by omega, by go_num, by go_num, Hst.out.1, Hg.out⟩
      case measure => simp [intOf]; omega
    · obtain rfl : j = xs.length := by omega
      go_wp2
      go_ret
      refine ⟨rfl, ?_, hg⟩
      have e : marks k xs.length ++ xs.drop xs.length = marks k xs.length := by simp
      rw [e] at hown
      show World.ownsRow _ _ _ _ _ _ _
      rw [marks_len]
      exact hown

theorem markIntSS_any (g : Nat) (vl : List Value) (xss : List (List Int)) (cap : Nat) (k : Int) (B lo hi : Nat) (w : World) (h0 : 0 ≤ k) (h1 : k ≤ 1048576) (hn : xss.length + totS xss xss.length ≤ 1048576) (ho : OwnS w B g vl xss) (hc : ∀ i, i < xss.length → ∀ c, (valAt vl i).ownBlock = some c → lo ≤ c ∧ c < hi) :
    Calls Try.prog 51 #[.slice (some ⟨g, 0, none⟩) xss.length cap, .int .i64 k] w fun e w' => e = .returned (.int .i64 (k + ((totS xss xss.length : Nat) : Int))) ∧ TouchS lo hi w w' := by
  have hmax := ho.max
  have HC := Lib.hid hc
  have HAP := Lib.hid ho.apart
  clear hc
  go_enter Try.func51, Try.ntmps51
  go_wp2_with fail
  go_loopw [1, 5] (fun k' i wr => ∃ j : Nat, j ≤ xss.length ∧ i = .int .i64 j ∧ k' = .int .i64 (k + ((totS xss j : Nat) : Int)) ∧ TouchS lo hi w wr ∧ g < wr.heap.size ∧ (∀ i, j ≤ i → i < xss.length → wr.cell? ⟨g, i, none⟩ = some (valAt vl i) ∧ OwnI wr (g + 1) (valAt vl i) (rowL xss i))) (fun _ i _ => xss.length - (intOf i).toNat)
  case atStart => exact ⟨0, Nat.zero_le _, rfl, by simp [totS], TouchS.refl _ _ _, ho.hi, fun i _ hi => ⟨ho.cell i hi, ho.row i hi⟩⟩
  case round =>
    obtain ⟨j, hj, rfl, rfl, ht, hg, hall⟩ := hrel
    have HA := Lib.hid hall
    clear hall
    by_cases hlt : j < xss.length
    · have ⟨hcj, hoj⟩ := HA.out j (Nat.le_refl _) hlt
      have hrt := row_tot (xss := xss) hlt
      have hmn := totS_mono (xss := xss) (j := j) (k := xss.length) (by omega)
      have HN : Hid (totS xss (j+1) = totS xss j + (rowL xss j).length) := rfl
      have k1 : (j : Int) < (xss.length : Int) := by omega
      have hcb := HC.out j hlt
      have HCB := Lib.hid hcb
      have HNX := Lib.hid (fun i (h : j < i) (h2 : i < xss.length) => HAP.out j i h h2)
      obtain ⟨vj, hvj⟩ : ∃ vj, vj = valAt vl j := ⟨_, rfl⟩
      rw [← hvj] at hcj hoj HCB HNX
      clear hvj hcb
      obtain ⟨aj, capj, rfl⟩ := hoj.form
      have hro : (rowL xss j).length ≤ 1048576 := by omega
      go_wp2_with fail
      refine (markIntS_any _ _ _ _ _ _ (by omega) (by omega) hro hoj).mono ?_
      rintro e w2 ⟨rfl, ho2, hg2⟩
      go_wp2_with fail
      go_roundw
      case rel =>
        refine ⟨j + 1, by omega, by go_num, val_int (by rw [HN.out]; omega), ht.step hg2 HCB.out, Nat.lt_of_lt_of_le hg hg2.size, fun i h2 h3 => ?_⟩
        have ⟨hci, hoi⟩ := HA.out i (by omega) h3
        refine ⟨hg2.cell hci (ne_own (fun c e => by have := hoj.lt c e; show c ≠ g; omega)), hoi.kept hg2 (own_ne (fun c e e2 => by have := HNX.out i (by omega) h3 c c e2 e; omega))⟩
      case measure => simp [intOf]; omega
    · obtain rfl : j = xss.length := by omega
      go_wp2_with fail
      go_ret
      exact ⟨rfl, ht⟩

/-- the marking of an argument: rows that were converted -/
theorem markMx_arg (g : Nat) (vl : List Value) (xss : List (List Int)) (cap : Nat) (k : Int) (B lo hi : Nat) (w : World) (h0 : 0 ≤ k) (h1 : k ≤ 1048576) (hn : xss.length + totS xss xss.length ≤ 1048576) (ho : OwnS w B g vl xss) (hc : ∀ i, i < xss.length → ∀ c, (valAt vl i).ownBlock = some c → lo ≤ c ∧ c < hi) :
    Calls Try.prog 24 #[.agg #[.slice (some ⟨g, 0, none⟩) xss.length cap], .int .i64 k] w fun e w' => e = .returned (.int .i64 (k + ((totS xss xss.length : Nat) : Int))) ∧ TouchS lo hi w w' := by
  have hmax := ho.max
  have ha : Below w.heap.size w (w.alloc (.cells #[.slice (some ⟨g, 0, none⟩) xss.length cap] 27)) := (by repeat (first | exact Below.refl _ _ | assumption | refine Below.alloc ?_ (by first | exact Nat.le_refl _ | (simp only [World.size_alloc, World.size_setCell, World.size_drew]; omega) | omega) _ | refine Below.setCell ?_ (by first | exact Nat.le_refl _ | (simp only [World.size_alloc, World.size_setCell, World.size_drew]; omega) | omega) _ | refine Below.drew ?_))
  have HA := Lib.hid ha
  have HCL := Lib.hid (markIntSS_any g vl xss cap k B lo hi _ h0 h1 hn (ho.below ha (Nat.le_refl _)) hc)
  clear hc ha ho
  go_enter Try.func24, Try.ntmps24
  go_wp2_with fail
  refine HCL.out.mono ?_
  rintro e w1 ⟨rfl, ht⟩
  have ht2 := TouchS.of_below (B := 0) HA.out ht
  clear ht
  go_wp2_with fail
  go_ret
  exact ⟨rfl, ht2⟩

set_option maxRecDepth 100000 in
/-- the marking of a result: only its rows are written -/
theorem markST_any (a : Option Addr) (n cap : Nat) (vl : List Value) (xss : List (List Int)) (k : Int) (B lo hi : Nat) (w : World) (hnl : n = xss.length) (h0 : 0 ≤ k) (h1 : k ≤ 1048576) (hn : xss.length + totS xss xss.length ≤ 1048576) (ho : RowsP w B (.slice a n cap) vl xss) (hc : ∀ i, i < xss.length → ∀ c, (valAt vl i).ownBlock = some c → lo ≤ c ∧ c < hi) :
    Calls Try.prog 51 #[.slice a n cap, .int .i64 k] w fun e w' => e = .returned (.int .i64 (k + ((totS xss xss.length : Nat) : Int))) ∧ RowsP w' B (.slice a n cap) vl (mkS xss k) ∧ TouchS lo hi w w' := by
  subst hnl
  have HO := Lib.hid ho
  have HC := Lib.hid hc
  have hmax : xss.length ≤ 1048576 := by omega
  go_enter Try.func51, Try.ntmps51
  clear ho hc
  go_wp2_with fail
  go_loopw [1, 5] (fun k' i wr => ∃ j : Nat, j ≤ xss.length ∧ i = .int .i64 j ∧ k' = .int .i64 (k + ((totS xss j : Nat) : Int)) ∧ TouchS lo hi w wr ∧ wr.ownsRow B 33 1 (.slice a xss.length cap) xss.length vl ∧ Hid (∀ i, i < xss.length → OwnI wr B (valAt vl i) (if i < j then rowL (mkS xss k) i else rowL xss i))) (fun _ i _ => xss.length - (intOf i).toNat)
  case atStart => exact ⟨0, Nat.zero_le _, rfl, by simp [totS], TouchS.refl _ _ _, HO.out.o.own, fun i hi => by rw [if_neg (by omega)]; exact HO.out.o.row i hi⟩
  case round =>
    obtain ⟨j, hj, rfl, rfl, hb, hown, HA⟩ := hrel
    by_cases hlt : j < xss.length
    · have hoj := HA.out j hlt
      rw [if_neg (by omega)] at hoj
      have hrt := row_tot (xss := xss) hlt
      have hmn := totS_mono (xss := xss) (j := j) (k := xss.length) (by omega)
      have HN : Hid (totS xss (j+1) = totS xss j + (rowL xss j).length) := rfl
      have k1 : (j : Int) < (xss.length : Int) := by omega
      have hvl := HO.out.o.vlen
      have hcj : ∃ g, a = some ⟨g, 0, none⟩ ∧ wr.cell? ⟨g, j, none⟩ = some (valAt vl j) ∧ g < wr.heap.size := by
        rcases hown.2 with ⟨e, h00⟩ | ⟨g, cap', cur, e, hbg, hg, _⟩
        · omega
        · simp only [Value.slice.injEq] at e
          obtain ⟨rfl, _, rfl⟩ := e
          exact ⟨g, rfl, by rw [World.ownsRow.cellAt hown j (by omega), valAt_get (by omega)], (Array.getElem?_eq_some_iff.1 hg).1⟩
      obtain ⟨g, rfl, hc, hgl⟩ := hcj
      have HAP := Lib.hid (HO.out.o.apart j hlt)
      have HCJ := Lib.hid (HC.out j hlt)
      have HPR := Lib.hid (fun i (hi : i < xss.length) (hne : i ≠ j) c (hc : (valAt vl j).ownBlock = some c) (hc2 : (valAt vl i).ownBlock = some c) => show False from by
        rcases Nat.lt_or_gt_of_ne hne with h | h
        · exact HO.out.pair i j h hlt c hc2 hc
        · exact HO.out.pair j i h hi c hc hc2)
      obtain ⟨vj, hvj⟩ : ∃ vj, vj = valAt vl j := ⟨_, rfl⟩
      have HVJ := Lib.hid hvj
      rw [← hvj] at hc hoj HAP HPR HCJ
      clear hvj hvl
      obtain ⟨aj, capj, rfl⟩ := hoj.form
      have hro : (rowL xss j).length ≤ 1048576 := by omega
      go_wp2_with fail
      refine (markIntS_any _ _ _ _ _ _ (by omega) (by omega) hro hoj).mono ?_
      rintro e w2 ⟨rfl, ho2, hg2⟩
      have b2 := hb.step hg2 HCJ.out
      have own2 : w2.ownsRow B 33 1 (.slice (some ⟨g, 0, none⟩) xss.length cap) xss.length vl := World.ownsRow.kept hown hg2 (own_ne (fun c e e2 => HAP.out c e2 e))
      have HA2 : Hid (∀ i, i < xss.length → OwnI w2 B (valAt vl i) (if i < j + 1 then rowL (mkS xss k) i else rowL xss i)) := by
        intro i hi
        by_cases e : i = j
        · subst e
          rw [if_pos (by omega), mkS_row hi, ← HVJ.out]
          exact ho2
        · have h3 := HA.out i hi
          have h4 : OwnI w2 B (valAt vl i) (if i < j then rowL (mkS xss k) i else rowL xss i) := h3.kept hg2 (own_ne (fun c e1 e2 => HPR.out i hi e c e2 e1))
          by_cases e5 : i < j
          · rw [if_pos e5] at h4
            rw [if_pos (by omega)]; exact h4
          · rw [if_neg e5] at h4
            rw [if_neg (by omega)]; exact h4
      clear ho2 hg2 hown
      go_wp2_with fail
      go_roundw
      case rel => exact ⟨j + 1, by omega, by go_num, val_int (by rw [HN.out]; omega), b2, own2, HA2⟩
      case measure => simp [intOf]; omega
    · obtain rfl : j = xss.length := by omega
      go_wp2_with fail
      go_ret
      refine ⟨rfl, ⟨⟨by rw [mkS_len]; exact hown, fun i hi => ?_, fun i hi => ?_⟩, fun i j h1 h2 => ?_⟩, hb⟩
      · rw [mkS_len] at hi
        have := HA.out i hi
        rw [if_pos hi] at this; exact this
      · rw [mkS_len] at hi
        exact HO.out.o.apart i hi
      · rw [mkS_len] at h2
        exact HO.out.pair i j h1 h2
theorem markMx_res (a : Option Addr) (cap : Nat) (vl : List Value) (xss : List (List Int)) (k : Int) (B lo hi : Nat) (w : World) (h0 : 0 ≤ k) (h1 : k ≤ 1048576) (hn : xss.length + totS xss xss.length ≤ 1048576) (ho : RowsP w B (.slice a xss.length cap) vl xss) (hc : ∀ i, i < xss.length → ∀ c, (valAt vl i).ownBlock = some c → lo ≤ c ∧ c < hi) :
    Calls Try.prog 24 #[.agg #[.slice a xss.length cap], .int .i64 k] w fun e w' => e = .returned (.int .i64 (k + ((totS xss xss.length : Nat) : Int))) ∧ RowsP w' B (.slice a xss.length cap) vl (mkS xss k) ∧ TouchS lo hi w w' := by
  have hmax : xss.length ≤ 1048576 := by omega
  have ha : Below w.heap.size w (w.alloc (.cells #[.slice a xss.length cap] 27)) := (by repeat (first | exact Below.refl _ _ | assumption | refine Below.alloc ?_ (by first | exact Nat.le_refl _ | (simp only [World.size_alloc, World.size_setCell, World.size_drew]; omega) | omega) _ | refine Below.setCell ?_ (by first | exact Nat.le_refl _ | (simp only [World.size_alloc, World.size_setCell, World.size_drew]; omega) | omega) _ | refine Below.drew ?_))
  have HA := Lib.hid ha
  have HCL := Lib.hid (markST_any a xss.length cap vl xss k B lo hi _ rfl h0 h1 hn (ho.below ha (Nat.le_refl _)) hc)
  clear hc ha ho
  go_enter Try.func24, Try.ntmps24
  go_wp2_with fail
  refine HCL.out.mono ?_
  rintro e w1 ⟨rfl, ho1, ht⟩
  have ht2 := TouchS.of_below (B := 0) HA.out ht
  clear ht
  go_wp2_with fail
  go_ret
  exact ⟨rfl, ho1, ht2⟩

theorem heldIntS_any (a : Option Addr) (n cap : Nat) (k : Int) (w : World) (h0 : 0 ≤ k) (h1 : k ≤ 1099511627776) (hn : n ≤ 1048576) (hx : Rd w a (marks k n)) :
    Calls Try.prog 26 #[.slice a n cap, .int .i64 k] w fun e w' => e = .returned (.int .i64 (k + n)) ∧ Below w.heap.size w w' := by
  go_enter Try.func26, Try.ntmps26
  go_wp2_with fail
  go_loop [1, 5] (fun k' i => ∃ j : Nat, j ≤ n ∧ i = .int .i64 j ∧ k' = .int .i64 (k + j)) (fun _ i => n - (intOf i).toNat)
  case atStart => exact ⟨0, Nat.zero_le _, rfl, by simp⟩
  case round =>
    obtain ⟨j, hj, rfl, rfl⟩ := hrel
    by_cases hlt : j < n
    · obtain ⟨b, off, rfl, hbl, hc⟩ := hx.cell j (by rw [marks_len]; exact hlt)
      rw [marks_nth hlt] at hc
      go_wp2_with fail
      go_round
      case rel => exact ⟨j + 1, by omega, by go_num, by go_num⟩
      case measure => simp [intOf]; omega
    · obtain rfl : j = n := by omega
      go_wp2_with fail
      go_ret
      exact ⟨rfl, (by repeat (first | exact Below.refl _ _ | assumption | refine Below.alloc ?_ (by first | exact Nat.le_refl _ | (simp only [World.size_alloc, World.size_setCell, World.size_drew]; omega) | omega) _ | refine Below.setCell ?_ (by first | exact Nat.le_refl _ | (simp only [World.size_alloc, World.size_setCell, World.size_drew]; omega) | omega) _ | refine Below.drew ?_))⟩

set_option maxRecDepth 100000 in
theorem heldSS_any (a : Option Addr) (n cap : Nat) (xss : List (List Int)) (k : Int) (w : World) (hnl : n = xss.length) (h0 : 0 ≤ k) (h1 : k ≤ 1048576) (hn : xss.length + totS xss xss.length ≤ 1048576) (hx : RdS w a (mkS xss k)) :
    Calls Try.prog 54 #[.slice a n cap, .int .i64 k] w fun e w' => e = .returned (.int .i64 (k + ((totS xss xss.length : Nat) : Int))) ∧ Below w.heap.size w w' := by
  subst hnl
  have hmax : xss.length ≤ 1048576 := by omega
  go_enter Try.func54, Try.ntmps54
  go_wp2_with fail
  go_loopw [1, 5] (fun k' i wr => ∃ j : Nat, j ≤ xss.length ∧ i = .int .i64 j ∧ k' = .int .i64 (k + ((totS xss j : Nat) : Int)) ∧ Below w.heap.size w wr) (fun _ i _ => xss.length - (intOf i).toNat)
  case atStart => exact ⟨0, Nat.zero_le _, rfl, by simp [totS], Below.refl _ _⟩
  case round =>
    obtain ⟨j, hj, rfl, rfl, hb⟩ := hrel
    by_cases hlt : j < xss.length
    · have hrt := row_tot (xss := xss) hlt
      have hmn := totS_mono (xss := xss) (j := j) (k := xss.length) (by omega)
      have HN : Hid (totS xss (j+1) = totS xss j + (rowL xss j).length) := rfl
      have k1 : (j : Int) < (xss.length : Int) := by omega
      obtain ⟨b1, off1, a1, cap1, rfl, hbl1, hc1, hr1⟩ := (hx.below hb).row j (by rw [mkS_len]; exact hlt)
      rw [mkS_row hlt] at hc1 hr1
      have hml : (marks (k + ((totS xss j : Nat) : Int)) (rowL xss j).length).length = (rowL xss j).length := by simp [marks]
      rw [hml] at hc1
      clear hml
      have hro : (rowL xss j).length ≤ 1048576 := by omega
      have hcall := heldIntS_any a1 (rowL xss j).length cap1 (k + ((totS xss j : Nat) : Int)) wr (by omega) (by omega) hro hr1
      have HCL := Lib.hid hcall
      have hge : ¬ (k + ((totS xss j : Nat) : Int) + (((rowL xss j).length : Nat) : Int) < 0) := by omega
      have hbs := hb.size
      clear hcall hr1
      go_wp2_with fail
      refine HCL.out.mono ?_
      rintro e w2 ⟨rfl, hb2⟩
      go_wp2_with fail
      go_roundw
      case rel => exact ⟨j + 1, by omega, by go_num, val_int (by rw [HN.out]; omega), hb.trans (hb2.mono hbs)⟩
      case measure => simp [intOf]; omega
    · obtain rfl : j = xss.length := by omega
      go_wp2_with fail
      go_ret
      exact ⟨rfl, hb⟩

theorem heldMx_any (a : Option Addr) (cap : Nat) (xss : List (List Int)) (k : Int) (w : World) (h0 : 0 ≤ k) (h1 : k ≤ 1048576) (hn : xss.length + totS xss xss.length ≤ 1048576) (hx : RdS w a (mkS xss k)) :
    Calls Try.prog 29 #[.agg #[.slice a xss.length cap], .int .i64 k] w fun e w' => e = .returned (.int .i64 (k + ((totS xss xss.length : Nat) : Int))) ∧ Below w.heap.size w w' := by
  have hmax : xss.length ≤ 1048576 := by omega
  have ha : Below w.heap.size w (w.alloc (.cells #[.slice a xss.length cap] 27)) := (by repeat (first | exact Below.refl _ _ | assumption | refine Below.alloc ?_ (by first | exact Nat.le_refl _ | (simp only [World.size_alloc, World.size_setCell, World.size_drew]; omega) | omega) _ | refine Below.setCell ?_ (by first | exact Nat.le_refl _ | (simp only [World.size_alloc, World.size_setCell, World.size_drew]; omega) | omega) _ | refine Below.drew ?_))
  have HA := Lib.hid ha
  have HCL := Lib.hid (heldSS_any a xss.length cap xss k _ rfl h0 h1 hn (hx.below ha))
  clear ha hx
  go_enter Try.func29, Try.ntmps29
  go_wp2_with fail
  refine HCL.out.mono ?_
  rintro e w1 ⟨rfl, hb⟩
  have hge : ¬ (k + ((totS xss xss.length : Nat) : Int) < 0) := by omega
  have hb2 : Below w.heap.size w w1 := HA.out.trans (hb.mono HA.out.size)
  clear hb
  go_wp2_with fail
  go_ret
  exact ⟨rfl, hb2⟩

theorem walk (a0 : Option Addr) (xss0 : List (List Int)) (cap0 : Nat) (w : World) (hx0 : RdS w a0 xss0) :
    Calls Try.prog 10 #[.agg #[.slice a0 xss0.length cap0]] w fun e w' => e = .returned (.bool true) ∧ Below w.heap.size w w' := by
  have hR0 : (shL xss0).length + totS (shL xss0) (shL xss0).length ≤ 1048576 := shL_len xss0
  by_cases hs0 : 1048576 < ((xss0.length + totS xss0 xss0.length : Nat) : Int)
  · go_enter Try.func10, Try.ntmps10
    go_wp2_with fail
    refine (szMx_no (by omega) (hx0.below ((Below.refl _ _).alloc (by first | exact Nat.le_refl _ | simp) _))).mono ?_
    rintro e w1 ⟨rfl, hb1⟩
    have bw1 : Below w.heap.size w w1 := Below.trans (by repeat (first | exact Below.refl _ _ | assumption | refine Below.alloc ?_ (by first | exact Nat.le_refl _ | (simp only [World.size_alloc, World.size_setCell, World.size_drew]; omega) | omega) _ | refine Below.setCell ?_ (by first | exact Nat.le_refl _ | (simp only [World.size_alloc, World.size_setCell, World.size_drew]; omega) | omega) _ | refine Below.drew ?_)) (hb1.mono (by first | (simp only [World.size_alloc, World.size_setCell, World.size_drew]; omega) | omega))
    have A0_1 : Box1 w1 w.heap.size (.slice a0 xss0.length cap0) := ⟨by have := hb1.size; simp at this; omega, (hb1.cell (p := ⟨w.heap.size, 0, none⟩) (by simp <;> omega)).trans (by simp)⟩
    have ⟨zA0_1, cA0_1⟩ := A0_1
    go_wp2_with fail
    go_ret
    exact ⟨rfl, bw1⟩
  go_enter Try.func10, Try.ntmps10
  go_wp2_with fail
  refine (szMx_ok (by omega) (hx0.below ((Below.refl _ _).alloc (by first | exact Nat.le_refl _ | simp) _))).mono ?_
  rintro e w1 ⟨rfl, hb⟩
  have bw1 : Below w.heap.size w w1 := Below.trans (by repeat (first | exact Below.refl _ _ | assumption | refine Below.alloc ?_ (by first | exact Nat.le_refl _ | (simp only [World.size_alloc, World.size_setCell, World.size_drew]; omega) | omega) _ | refine Below.setCell ?_ (by first | exact Nat.le_refl _ | (simp only [World.size_alloc, World.size_setCell, World.size_drew]; omega) | omega) _ | refine Below.drew ?_)) (hb.mono (by first | (simp only [World.size_alloc, World.size_setCell, World.size_drew]; omega) | omega))
  have z1 : w.heap.size ≤ w1.heap.size := bw1.size
  have A0_1 : Box1 w1 w.heap.size (.slice a0 xss0.length cap0) := ⟨by have := hb.size; simp at this; omega, (hb.cell (p := ⟨w.heap.size, 0, none⟩) (by simp <;> omega)).trans (by simp)⟩
  have ⟨zA0_1, cA0_1⟩ := A0_1
  clear hb
  go_wp2_with fail
  refine (toMx_any _ _ _ _ (hx0.below bw1) (by omega)).mono ?_
  rintro e w2 ⟨pT0, qT0, lT0, rfl, ho, hb⟩
  have ht : Below w1.heap.size w1 w2 := hb
  have z2 : w1.heap.size ≤ w2.heap.size := ht.size
  have bw2 : Below w.heap.size w w2 := bw1.trans (ht.mono bw1.size)
  have A0_2 := A0_1.below ht
  have ⟨zA0_2, cA0_2⟩ := A0_2
  clear A0_1 cA0_1
  have T0_2 := ho
  have UT0 := T0_2.cut (Nat.le_refl _)
  clear ho
  clear ht hb
  go_wp2_with fail
  refine (sShrink_any _ _ _ _ (T0_2.rdC) (by omega)).mono ?_
  rintro e w3 ⟨pR0, qR0, lR0, rfl, ho0, hb⟩
  have ht : Below w2.heap.size w2 w3 := hb
  have z3 : w2.heap.size ≤ w3.heap.size := ht.size
  have bw3 : Below w.heap.size w w3 := bw2.trans (ht.mono bw2.size)
  have A0_3 := A0_2.below ht
  have ⟨zA0_3, cA0_3⟩ := A0_3
  have T0_3 := T0_2.below ht (Nat.le_refl _)
  clear A0_2 cA0_2 T0_2
  have R0_3 := ho0
  have UR0 := R0_3.cut (Nat.le_refl _)
  clear ho0
  clear ht hb
  go_wp2_with fail
  clear T0_3 UT0
  refine (toMx_any _ _ _ _ (hx0.below (bw3.alloc bw3.size _)) (by omega)).mono ?_
  rintro e w4 ⟨pX0, qX0, lX0, rfl, ho, hb⟩
  have ht : Below w3.heap.size w3 w4 := Below.trans (by repeat (first | exact Below.refl _ _ | assumption | refine Below.alloc ?_ (by first | exact Nat.le_refl _ | (simp only [World.size_alloc, World.size_setCell, World.size_drew]; omega) | omega) _ | refine Below.setCell ?_ (by first | exact Nat.le_refl _ | (simp only [World.size_alloc, World.size_setCell, World.size_drew]; omega) | omega) _ | refine Below.drew ?_)) (hb.mono (by first | (simp only [World.size_alloc, World.size_setCell, World.size_drew]; omega) | omega))
  have z4 : w3.heap.size ≤ w4.heap.size := ht.size
  have bw4 : Below w.heap.size w w4 := bw3.trans (ht.mono bw3.size)
  have A0_4 := A0_3.below ht
  have BR0_4 : Box1 w4 w3.heap.size (.slice pR0 (shL xss0).length qR0) := (Box1.new w3 _ 27).below hb
  have ⟨zA0_4, cA0_4⟩ := A0_4
  have ⟨zBR0_4, cBR0_4⟩ := BR0_4
  have R0_4 := R0_3.below ht (Nat.le_refl _)
  clear A0_3 cA0_3 R0_3
  have X0_4 := ho
  have UX0 := X0_4.cut (Nat.le_refl _); simp only [World.size_alloc] at UX0
  clear ho
  clear ht hb
  go_wp2_with fail
  refine (iShrink_any _ _ _ _ (X0_4.rdC.below (by repeat (first | exact Below.refl _ _ | assumption | refine Below.alloc ?_ (by first | exact Nat.le_refl _ | (simp only [World.size_alloc, World.size_setCell, World.size_drew]; omega) | omega) _ | refine Below.setCell ?_ (by first | exact Nat.le_refl _ | (simp only [World.size_alloc, World.size_setCell, World.size_drew]; omega) | omega) _ | refine Below.drew ?_))) (by omega)).mono ?_
  rintro e w5 ⟨pG0, qG0, lG0, rfl, ho0, hb⟩
  have ht : Below w4.heap.size w4 w5 := Below.trans (by repeat (first | exact Below.refl _ _ | assumption | refine Below.alloc ?_ (by first | exact Nat.le_refl _ | (simp only [World.size_alloc, World.size_setCell, World.size_drew]; omega) | omega) _ | refine Below.setCell ?_ (by first | exact Nat.le_refl _ | (simp only [World.size_alloc, World.size_setCell, World.size_drew]; omega) | omega) _ | refine Below.drew ?_)) (hb.mono (by first | (simp only [World.size_alloc, World.size_setCell, World.size_drew]; omega) | omega))
  have z5 : w4.heap.size ≤ w5.heap.size := ht.size
  have bw5 : Below w.heap.size w w5 := bw4.trans (ht.mono bw4.size)
  have A0_5 := A0_4.below ht
  have BR0_5 := BR0_4.below ht
  have BX0_5 : Box1 w5 w4.heap.size (.slice (some ⟨pX0, 0, none⟩) xss0.length qX0) := (Box1.new w4 _ 27).below hb
  have ⟨zA0_5, cA0_5⟩ := A0_5
  have ⟨zBR0_5, cBR0_5⟩ := BR0_5
  have ⟨zBX0_5, cBX0_5⟩ := BX0_5
  have R0_5 := R0_4.below ht (Nat.le_refl _)
  have X0_5 := X0_4.below ht (Nat.le_refl _)
  clear A0_4 cA0_4 BR0_4 cBR0_4 R0_4 X0_4
  have G0_5 := ho0
  have UG0 := G0_5.cut (Nat.le_refl _); simp only [World.size_alloc] at UG0
  clear ho0
  clear ht hb
  go_wp2_with fail
  refine (eqMx_any _ _ (shL xss0) _ _ _ (G0_5.o.rd.below (by repeat (first | exact Below.refl _ _ | assumption | refine Below.alloc ?_ (by first | exact Nat.le_refl _ | (simp only [World.size_alloc, World.size_setCell, World.size_drew]; omega) | omega) _ | refine Below.setCell ?_ (by first | exact Nat.le_refl _ | (simp only [World.size_alloc, World.size_setCell, World.size_drew]; omega) | omega) _ | refine Below.drew ?_))) (R0_5.o.rd.below (by repeat (first | exact Below.refl _ _ | assumption | refine Below.alloc ?_ (by first | exact Nat.le_refl _ | (simp only [World.size_alloc, World.size_setCell, World.size_drew]; omega) | omega) _ | refine Below.setCell ?_ (by first | exact Nat.le_refl _ | (simp only [World.size_alloc, World.size_setCell, World.size_drew]; omega) | omega) _ | refine Below.drew ?_)))).mono ?_
  rintro e w6 ⟨rfl, hb⟩
  have ht : Below w5.heap.size w5 w6 := Below.trans (by repeat (first | exact Below.refl _ _ | assumption | refine Below.alloc ?_ (by first | exact Nat.le_refl _ | (simp only [World.size_alloc, World.size_setCell, World.size_drew]; omega) | omega) _ | refine Below.setCell ?_ (by first | exact Nat.le_refl _ | (simp only [World.size_alloc, World.size_setCell, World.size_drew]; omega) | omega) _ | refine Below.drew ?_)) (hb.mono (by first | (simp only [World.size_alloc, World.size_setCell, World.size_drew]; omega) | omega))
  have z6 : w5.heap.size ≤ w6.heap.size := ht.size
  have bw6 : Below w.heap.size w w6 := bw5.trans (ht.mono bw5.size)
  have A0_6 := A0_5.below ht
  have BR0_6 := BR0_5.below ht
  have BX0_6 := BX0_5.below ht
  have BG0_6 : Box1 w6 w5.heap.size (.slice pG0 (shL xss0).length qG0) := (Box1.new w5 _ 27).below hb
  have ⟨zA0_6, cA0_6⟩ := A0_6
  have ⟨zBR0_6, cBR0_6⟩ := BR0_6
  have ⟨zBX0_6, cBX0_6⟩ := BX0_6
  have ⟨zBG0_6, cBG0_6⟩ := BG0_6
  have R0_6 := R0_5.below ht (Nat.le_refl _)
  have X0_6 := X0_5.below ht (Nat.le_refl _)
  have G0_6 := G0_5.below ht (Nat.le_refl _)
  clear A0_5 cA0_5 BR0_5 cBR0_5 BX0_5 cBX0_5 R0_5 X0_5 G0_5
  clear ht hb
  go_wp2_with fail
  go_region_held3 (fun w' => w'.cell? ⟨w.heap.size, 0, none⟩ = some (.slice a0 xss0.length cap0) ∧ w'.cell? ⟨w4.heap.size, 0, none⟩ = some (.slice (some ⟨pX0, 0, none⟩) xss0.length qX0))
    (first | exact ⟨P8.2, Q8.2⟩ | exact ⟨P7.2, Q7.2⟩ | go_keep)
    (first | (go_at_call 14; refine (toMx_any _ _ _ _ (hx0.below (bw6.trans (Joins.below_draws _ _ _))) (by omega)).mono ?_; rintro e w7 ⟨a7', cap7', l7', rfl, ho7, hb7⟩; have ht7 : Below w6.heap.size w6 w7 := (Joins.below_draws _ _ _).trans hb7; have P7 := A0_6.below ht7; have Q7 := BX0_6.below ht7) | (go_at_call 16; refine (eqMx_any _ _ xss0 _ _ _ (X0_6.rd.below ht7) ho7.rd).mono ?_; rintro e w8 ⟨rfl, hb8⟩; have P8 := P7.below hb8; have Q8 := Q7.below hb8))
  have ht : Below w6.heap.size w6 w8 := ht7.trans (hb8.mono ht7.size)
  have z8 : w6.heap.size ≤ w8.heap.size := ht.size
  have bw8 : Below w.heap.size w w8 := bw6.trans (ht.mono bw6.size)
  clear P7 Q7 P8 Q8 ho7
  have A0_8 := A0_6.below ht
  have BR0_8 := BR0_6.below ht
  have BX0_8 := BX0_6.below ht
  have BG0_8 := BG0_6.below ht
  have ⟨zA0_8, cA0_8⟩ := A0_8
  have ⟨zBR0_8, cBR0_8⟩ := BR0_8
  have ⟨zBX0_8, cBX0_8⟩ := BX0_8
  have ⟨zBG0_8, cBG0_8⟩ := BG0_8
  have R0_8 := R0_6.below ht (Nat.le_refl _)
  have X0_8 := X0_6.below ht (Nat.le_refl _)
  have G0_8 := G0_6.below ht (Nat.le_refl _)
  clear A0_6 cA0_6 BR0_6 cBR0_6 BX0_6 cBX0_6 BG0_6 cBG0_6 R0_6 X0_6 G0_6
  clear ht hb8 ht7 hb7
  go_wp2_with fail
  refine (markMx_arg _ _ _ _ _ _ (w3.heap.size + 1) w4.heap.size _ (by omega) (by omega) (by omega) X0_8 (fun i hi c e => by have h1 := UX0.2 i hi c e; have h2 := UX0.1; omega)).mono ?_
  rintro e w9 ⟨rfl, hg⟩
  have z9 : w8.heap.size ≤ w9.heap.size := hg.size
  have bw9 : Below w.heap.size w w9 := bw8.trans (hg.below (by omega) (by omega))
  have A0_9 := A0_8.touch hg (by omega)
  have ⟨zA0_9, cA0_9⟩ := A0_9
  have BR0_9 := BR0_8.touch hg (by omega)
  have ⟨zBR0_9, cBR0_9⟩ := BR0_9
  have BX0_9 := BX0_8.touch hg (by omega)
  have ⟨zBX0_9, cBX0_9⟩ := BX0_9
  have BG0_9 := BG0_8.touch hg (by omega)
  have ⟨zBG0_9, cBG0_9⟩ := BG0_9
  have R0_9 := R0_8.touch hg (fun c e => by have := UR0.1 c e; omega) (fun k hk c e => by have := UR0.2 k hk c e; omega)
  have G0_9 := G0_8.touch hg (fun c e => by have := UG0.1 c e; omega) (fun k hk c e => by have := UG0.2 k hk c e; omega)
  clear A0_8 cA0_8 BR0_8 cBR0_8 BX0_8 cBX0_8 BG0_8 cBG0_8 R0_8 X0_8 G0_8 hg UX0
  go_wp2_with fail
  refine (eqMx_any _ _ (shL xss0) _ _ _ (G0_9.o.rd) (R0_9.o.rd)).mono ?_
  rintro e w10 ⟨rfl, hb⟩
  have ht : Below w9.heap.size w9 w10 := hb
  have z10 : w9.heap.size ≤ w10.heap.size := ht.size
  have bw10 : Below w.heap.size w w10 := bw9.trans (ht.mono bw9.size)
  have A0_10 := A0_9.below ht
  have BR0_10 := BR0_9.below ht
  have BX0_10 := BX0_9.below ht
  have BG0_10 := BG0_9.below ht
  have ⟨zA0_10, cA0_10⟩ := A0_10
  have ⟨zBR0_10, cBR0_10⟩ := BR0_10
  have ⟨zBX0_10, cBX0_10⟩ := BX0_10
  have ⟨zBG0_10, cBG0_10⟩ := BG0_10
  have R0_10 := R0_9.below ht (Nat.le_refl _)
  have G0_10 := G0_9.below ht (Nat.le_refl _)
  clear A0_9 cA0_9 BR0_9 cBR0_9 BX0_9 cBX0_9 BG0_9 cBG0_9 R0_9 G0_9
  clear ht hb
  go_wp2_with fail
  have hcm : ∀ i, i < (shL xss0).length → ∀ c, (valAt lG0 i).ownBlock = some c → (w4.heap.size + 1) ≤ c ∧ c < w5.heap.size := fun i hi c e => by have := UG0.2 i hi c e; omega
  refine (markMx_res _ _ _ (shL xss0) _ _ (w4.heap.size + 1) w5.heap.size _ (by omega) (by omega) hR0 G0_10 hcm).mono ?_
  rintro e w11 ⟨rfl, ho, hg⟩
  have z11 : w10.heap.size ≤ w11.heap.size := hg.size
  have bw11 : Below w.heap.size w w11 := bw10.trans (hg.below (by omega) (by omega))
  have A0_11 := A0_10.touch hg (by omega)
  have ⟨zA0_11, cA0_11⟩ := A0_11
  have BR0_11 := BR0_10.touch hg (by omega)
  have ⟨zBR0_11, cBR0_11⟩ := BR0_11
  have BX0_11 := BX0_10.touch hg (by omega)
  have ⟨zBX0_11, cBX0_11⟩ := BX0_11
  have BG0_11 := BG0_10.touch hg (by omega)
  have ⟨zBG0_11, cBG0_11⟩ := BG0_11
  have R0_11 := R0_10.touch hg (fun c e => by have := UR0.1 c e; omega) (fun k hk c e => by have := UR0.2 k hk c e; omega)
  clear A0_10 cA0_10 BR0_10 cBR0_10 BX0_10 cBX0_10 BG0_10 cBG0_10 R0_10 G0_10 hg hcm
  have G0_11 := ho
  clear ho
  go_wp2_with fail
  refine (heldMx_any _ _ (shL xss0) _ _ (by omega) (by omega) hR0 G0_11.o.rd).mono ?_
  rintro e w12 ⟨rfl, hb⟩
  have ht : Below w11.heap.size w11 w12 := hb
  have z12 : w11.heap.size ≤ w12.heap.size := ht.size
  have bw12 : Below w.heap.size w w12 := bw11.trans (ht.mono bw11.size)
  have A0_12 := A0_11.below ht
  have BR0_12 := BR0_11.below ht
  have BX0_12 := BX0_11.below ht
  have BG0_12 := BG0_11.below ht
  have ⟨zA0_12, cA0_12⟩ := A0_12
  have ⟨zBR0_12, cBR0_12⟩ := BR0_12
  have ⟨zBX0_12, cBX0_12⟩ := BX0_12
  have ⟨zBG0_12, cBG0_12⟩ := BG0_12
  have R0_12 := R0_11.below ht (Nat.le_refl _)
  have G0_12 := G0_11.below ht (Nat.le_refl _)
  clear A0_11 cA0_11 BR0_11 cBR0_11 BX0_11 cBX0_11 BG0_11 cBG0_11 R0_11 G0_11
  clear ht hb
  go_wp2_with fail
  refine (toMx_any _ _ _ _ (hx0.below bw12) (by omega)).mono ?_
  rintro e w13 ⟨pV0, qV0, lV0, rfl, ho, hb⟩
  have ht : Below w12.heap.size w12 w13 := hb
  have z13 : w12.heap.size ≤ w13.heap.size := ht.size
  have bw13 : Below w.heap.size w w13 := bw12.trans (ht.mono bw12.size)
  have A0_13 := A0_12.below ht
  have BR0_13 := BR0_12.below ht
  have BX0_13 := BX0_12.below ht
  have BG0_13 := BG0_12.below ht
  have ⟨zA0_13, cA0_13⟩ := A0_13
  have ⟨zBR0_13, cBR0_13⟩ := BR0_13
  have ⟨zBX0_13, cBX0_13⟩ := BX0_13
  have ⟨zBG0_13, cBG0_13⟩ := BG0_13
  have R0_13 := R0_12.below ht (Nat.le_refl _)
  have G0_13 := G0_12.below ht (Nat.le_refl _)
  clear A0_12 cA0_12 BR0_12 cBR0_12 BX0_12 cBX0_12 BG0_12 cBG0_12 R0_12 G0_12
  have V0_13 := ho
  have UV0 := V0_13.cut (Nat.le_refl _)
  clear ho
  clear ht hb
  go_wp2_with fail
  refine (iShrink_any _ _ _ _ (V0_13.rdC) (by omega)).mono ?_
  rintro e w14 ⟨pH0, qH0, lH0, rfl, ho0, hb⟩
  have ht : Below w13.heap.size w13 w14 := hb
  have z14 : w13.heap.size ≤ w14.heap.size := ht.size
  have bw14 : Below w.heap.size w w14 := bw13.trans (ht.mono bw13.size)
  have A0_14 := A0_13.below ht
  have BR0_14 := BR0_13.below ht
  have BX0_14 := BX0_13.below ht
  have BG0_14 := BG0_13.below ht
  have ⟨zA0_14, cA0_14⟩ := A0_14
  have ⟨zBR0_14, cBR0_14⟩ := BR0_14
  have ⟨zBX0_14, cBX0_14⟩ := BX0_14
  have ⟨zBG0_14, cBG0_14⟩ := BG0_14
  have R0_14 := R0_13.below ht (Nat.le_refl _)
  have G0_14 := G0_13.below ht (Nat.le_refl _)
  have V0_14 := V0_13.below ht (Nat.le_refl _)
  clear A0_13 cA0_13 BR0_13 cBR0_13 BX0_13 cBX0_13 BG0_13 cBG0_13 R0_13 G0_13 V0_13
  have H0_14 := ho0
  have UH0 := H0_14.cut (Nat.le_refl _)
  clear ho0
  clear ht hb
  go_wp2_with fail
  clear V0_14 UV0
  refine (eqMx_any _ _ (shL xss0) _ _ _ (H0_14.o.rd.below (by repeat (first | exact Below.refl _ _ | assumption | refine Below.alloc ?_ (by first | exact Nat.le_refl _ | (simp only [World.size_alloc, World.size_setCell, World.size_drew]; omega) | omega) _ | refine Below.setCell ?_ (by first | exact Nat.le_refl _ | (simp only [World.size_alloc, World.size_setCell, World.size_drew]; omega) | omega) _ | refine Below.drew ?_))) (R0_14.o.rd.below (by repeat (first | exact Below.refl _ _ | assumption | refine Below.alloc ?_ (by first | exact Nat.le_refl _ | (simp only [World.size_alloc, World.size_setCell, World.size_drew]; omega) | omega) _ | refine Below.setCell ?_ (by first | exact Nat.le_refl _ | (simp only [World.size_alloc, World.size_setCell, World.size_drew]; omega) | omega) _ | refine Below.drew ?_)))).mono ?_
  rintro e w15 ⟨rfl, hb⟩
  have ht : Below w14.heap.size w14 w15 := Below.trans (by repeat (first | exact Below.refl _ _ | assumption | refine Below.alloc ?_ (by first | exact Nat.le_refl _ | (simp only [World.size_alloc, World.size_setCell, World.size_drew]; omega) | omega) _ | refine Below.setCell ?_ (by first | exact Nat.le_refl _ | (simp only [World.size_alloc, World.size_setCell, World.size_drew]; omega) | omega) _ | refine Below.drew ?_)) (hb.mono (by first | (simp only [World.size_alloc, World.size_setCell, World.size_drew]; omega) | omega))
  have z15 : w14.heap.size ≤ w15.heap.size := ht.size
  have bw15 : Below w.heap.size w w15 := bw14.trans (ht.mono bw14.size)
  have A0_15 := A0_14.below ht
  have BR0_15 := BR0_14.below ht
  have BX0_15 := BX0_14.below ht
  have BG0_15 := BG0_14.below ht
  have BH0_15 : Box1 w15 w14.heap.size (.slice pH0 (shL xss0).length qH0) := (Box1.new w14 _ 27).below hb
  have ⟨zA0_15, cA0_15⟩ := A0_15
  have ⟨zBR0_15, cBR0_15⟩ := BR0_15
  have ⟨zBX0_15, cBX0_15⟩ := BX0_15
  have ⟨zBG0_15, cBG0_15⟩ := BG0_15
  have ⟨zBH0_15, cBH0_15⟩ := BH0_15
  have R0_15 := R0_14.below ht (Nat.le_refl _)
  have G0_15 := G0_14.below ht (Nat.le_refl _)
  have H0_15 := H0_14.below ht (Nat.le_refl _)
  clear A0_14 cA0_14 BR0_14 cBR0_14 BX0_14 cBX0_14 BG0_14 cBG0_14 R0_14 G0_14 H0_14
  clear ht hb
  go_wp2_with fail
  refine (heldMx_any _ _ (shL xss0) _ _ (by omega) (by omega) hR0 G0_15.o.rd).mono ?_
  rintro e w16 ⟨rfl, hb⟩
  have ht : Below w15.heap.size w15 w16 := hb
  have z16 : w15.heap.size ≤ w16.heap.size := ht.size
  have bw16 : Below w.heap.size w w16 := bw15.trans (ht.mono bw15.size)
  have A0_16 := A0_15.below ht
  have BR0_16 := BR0_15.below ht
  have BX0_16 := BX0_15.below ht
  have BG0_16 := BG0_15.below ht
  have BH0_16 := BH0_15.below ht
  have ⟨zA0_16, cA0_16⟩ := A0_16
  have ⟨zBR0_16, cBR0_16⟩ := BR0_16
  have ⟨zBX0_16, cBX0_16⟩ := BX0_16
  have ⟨zBG0_16, cBG0_16⟩ := BG0_16
  have ⟨zBH0_16, cBH0_16⟩ := BH0_16
  have R0_16 := R0_15.below ht (Nat.le_refl _)
  have G0_16 := G0_15.below ht (Nat.le_refl _)
  have H0_16 := H0_15.below ht (Nat.le_refl _)
  clear A0_15 cA0_15 BR0_15 cBR0_15 BX0_15 cBX0_15 BG0_15 cBG0_15 BH0_15 cBH0_15 R0_15 G0_15 H0_15
  clear ht hb
  go_wp2_with fail
  go_ret
  exact ⟨rfl, bw16⟩

theorem rd_of_trod {H : Type} {enc : TypeId × Value → H} {W : World} {fuel : Nat} {c : Value} {y : DataW H × List MemPlace}
    (h : DataW.trod enc Try.prog W 0 (fun _ => true) true fuel 33 [c] = some y) : ∃ (a : Option Addr) (xs : List Int) (cap : Nat), c = .slice a xs.length cap ∧ Rd W a xs ∧ ∀ k, k < xs.length → (Lit.int .i64 (nth xs k)).wf = true := by
  rcases Go.ChangeShapes.open_ints Try.underlying33 Try.underlying3 (by kernel_rfl) h with ⟨hcs, _⟩ | ⟨x, len, cap, zs, hcs, _, hl, hm, hz, _, hcell, hwf⟩
  · simp only [List.cons.injEq, and_true] at hcs
    exact ⟨none, [], 0, hcs, ⟨by simp, fun k hk => by simp at hk⟩, fun k hk => by simp at hk⟩
  · simp only [List.cons.injEq, and_true] at hcs
    simp only [if_true] at hz
    have hlen : (zs.take len).length = len := by rw [List.length_take]; omega
    have hn : ∀ k, k < len → nth (zs.take len) k = zs.getD k 0 := by
      intro k hk
      simp only [nth, List.getD_eq_getElem?_getD, List.getElem?_take, hk, if_true]
    refine ⟨some x, zs.take len, cap, by rw [hlen]; exact hcs, ⟨by rw [hlen]; unfold maxLen at hm; omega, fun k hk => ?_⟩, fun k hk => ?_⟩
    · rw [hlen] at hk
      obtain ⟨b, off, sp⟩ := x
      have h0 := hcell 0 (by omega)
      have hsp : sp = none := by simpa [Addr.add] using World.cell?_spot h0
      subst hsp
      have hk' := hcell k (by omega)
      rw [Addr.add_lit] at hk'
      exact ⟨b, off, rfl, World.block_lt_of_cell? _ _ h0, by rw [hk', hn k hk]⟩
    · rw [hlen] at hk
      rw [hn k hk]
      have hk2 : k < zs.length := by omega
      exact hwf _ (by rw [List.getD_eq_getElem?_getD, List.getElem?_eq_getElem hk2]; exact List.getElem_mem hk2)

theorem own : ownKnob Try.prog.godebug = none := by kernel_rfl
theorem laidOut : laidOutB Try.prog = true := by kernel_rfl
theorem wf_bd {n : Int} (h : (Lit.int .i64 n).wf = true) : -9223372036854775808 ≤ n ∧ n ≤ 9223372036854775807 := by
  simp [Lit.wf, IntKind.min, IntKind.max, IntKind.bits, IntKind.signed] at h
  omega

theorem rdS_of_trod {H : Type} {enc : TypeId × Value → H} {W : World} {fuel : Nat} {c : Value} {y : DataW H × List MemPlace}
    (h : DataW.trod enc Try.prog W 0 (fun _ => true) true fuel 22 [c] = some y) : ∃ (a : Option Addr) (xss : List (List Int)) (cap : Nat), c = .slice a xss.length cap ∧ RdS W a xss := by
  rcases Go.Deep.open_int_rows Try.underlying22 Try.underlying33 Try.underlying3 (by kernel_rfl) (by kernel_rfl) h with ⟨hcs, _⟩ | ⟨x, len, cap, A, L, C, Z, hcs, _, hl, hm, _, hr⟩
  · simp only [List.cons.injEq, and_true] at hcs
    exact ⟨none, [], 0, hcs, ⟨by simp, fun k hk => by simp at hk⟩⟩
  · simp only [List.cons.injEq, and_true] at hcs
    have hlen : ((List.range len).map fun r => (Z r).take (L r)).length = len := by simp
    refine ⟨some x, (List.range len).map fun r => (Z r).take (L r), cap, by rw [hlen]; exact hcs, ⟨by rw [hlen]; unfold maxLen at hm; omega, fun k hk => ?_⟩⟩
    rw [hlen] at hk
    rw [show rowL ((List.range len).map fun r => (Z r).take (L r)) k = (Z k).take (L k) by simp [rowL, hk]]
    obtain ⟨b, off, sp⟩ := x
    obtain ⟨h0, hLC, hCm, hZ, hwf, hnone, hcell⟩ := hr k (by omega)
    have hsp : sp = none := by simpa [Addr.add] using World.cell?_spot (hr 0 (by omega)).1
    subst hsp
    rw [Addr.add_lit] at h0
    have hlz : ((Z k).take (L k)).length = L k := by rw [List.length_take]; omega
    refine ⟨b, off, A k, C k, rfl, World.block_lt_of_cell? _ _ h0, by rw [hlz]; exact h0, ⟨by rw [hlz]; unfold maxLen at hCm; omega, fun c hc => ?_⟩⟩
    rw [hlz] at hc
    cases hA : A k with
    | none => have := hnone hA; omega
    | some a' =>
      have h1 := (hcell a' hA).2 c (by omega)
      obtain ⟨b', off', sp'⟩ := a'
      have hsp' : sp' = none := by simpa [Addr.add] using World.cell?_spot ((hcell _ hA).2 0 (by omega))
      subst hsp'
      rw [Addr.add_lit] at h1
      refine ⟨b', off', rfl, World.block_lt_of_cell? _ _ h1, ?_⟩
      rw [h1]
      simp [nth, List.getD_eq_getElem?_getD, List.getElem?_take, hc]

theorem cellsM : Try.prog.cellsOf 24 = 1 := by kernel_rfl
open Go.ChangeShapes Go.WideShapes Go.ChangeAt Go.RowKit in
theorem open_agg1 {H : Type} {enc : TypeId × Value → H} {P : Program} {w : World} {base : Nat} {spare : Nat → Bool} {held : Bool} {r : Reach} {b0 : Nat} {t : TypeId} {f0 : Field} {v : Value} {d : DataW H} {p : List MemPlace} (hs : P.underlying t = some (.struct #[f0])) (hone : f0.offset = 0 ∧ P.cellsOf f0.type = 1) (hC : P.cellsOf t = 1)
    (hv : Value.okWide P w r b0 t v) (h : DataW.Trod enc P w base spare held t v d p) :
    ∃ (v0 : Value) (y0 : DataW H × List MemPlace) (n : Nat), v = .agg #[v0] ∧ d = .agg [y0.1] ∧ p = y0.2 ∧ DataW.trod enc P w base spare held n f0.type [v0] = some y0 := by
  obtain ⟨cs, rfl, hsz⟩ := okWide_struct hs hv
  rw [hC] at hsz
  obtain ⟨l⟩ := cs
  obtain ⟨c0, rfl⟩ : ∃ c0, l = [c0] := by
    match l, hsz with
    | [c], _ => exact ⟨c, rfl⟩
  obtain ⟨fuel, hf⟩ := h
  obtain ⟨y0, n, hx, _, h0⟩ := trod_struct1 hs hf
  simp only [Prod.mk.injEq] at hx
  refine ⟨c0, y0, n, rfl, hx.1, hx.2, by simpa [Value.cells, hone.1, hone.2] using h0⟩

open Go.ChangeShapes Go.WideShapes Go.ChangeAt Go.RowKit in
set_option maxRecDepth 100000 in
theorem lifted (os : Os) (started : os.Started) (H : Type) (enc : TypeId × Value → H) :
    ReturnsInHanded {} Try.checked os 10 .any (Rows.fnExactShrinkMatrixSpec.pre6 enc Try.prog Try.f10 Rows.fnExactShrinkMatrixRow.domain false) (Rows.fnExactShrinkMatrixSpec.post enc Try.prog Try.f10 false true false false) := by
  refine returnsInHanded_of_change (C := Try.checked) own started (by kernel_rfl) Try.func10
    (ChangeSpec.witness6 (enc := enc) (C := Try.checked) false ⟨#[], #[.agg #[.slice none 0 0]], []⟩ 8 (by kernel_rfl) (by kernel_rfl) (by kernel_rfl) (by kernel_rfl)) ?_
  intro W base args ds gs before hval0 hW hcnd _
  have hval : ∀ (j : Nat) t v, Try.f10.params[j]? = some t → args[j]? = some v → Value.okWide Try.prog W .any base t v := hval0
  have hW' := hW
  obtain ⟨p, q, hA0, hV, rfl, hfz, hnd⟩ := hW
  have hA : DataW.TrodAll enc Try.prog W 0 (fun _ => true) true Try.f10.params.toList args.toList ds p := hA0
  rw [Try.params10] at hA hval
  obtain ⟨v0, vs0, d0, ds0, p0, q0, hargs, rfl, rfl, h0, r0⟩ := trodAll_cons hA
  obtain ⟨rfl, rfl, rfl⟩ := trodAll_nil r0
  obtain rfl : args = #[v0] := by cases args; simp_all
  obtain ⟨rfl, rfl⟩ := trodVars_none hV
  have lt0 : ∀ x ∈ p0, x.block < W.heap.size := by obtain ⟨m, hm⟩ := h0; exact DataW.trod_lt m _ _ _ hm
  obtain ⟨c00, y00, m0, rfl, hd0, hp0, hy00⟩ := open_agg1 Try.underlying24 ⟨by kernel_rfl, by kernel_rfl⟩ cellsM (hval 0 24 v0 rfl rfl) h0
  obtain ⟨a0, xss0, cap0, rfl, rd0⟩ := rdS_of_trod hy00
  clear hA0 hval0
  refine (walk a0 xss0 cap0 W rd0).mono fun e W' ⟨he, bel⟩ => ?_
  subst he
  exact ⟨_, rfl, _, _, _, [], _, [], hW', trodAll_mk1 (shut_bool Try.underlying4 _), (trodAll_cons_mk (Below.trod laidOut (by kernel_rfl) (of_decide_eq_true (by kernel_rfl)) h0 bel lt0) trodAll_mk0), rfl, bel.frame _, fun h => by cases h⟩
theorem proved : Rows.FnExactShrinkMatrixSaid :=
  OpenClaim.holds_of_wide 10 Try.f10 rfl rfl rfl rfl rfl rfl rfl ⟨rfl, rfl, rfl, rfl, rfl⟩ rfl rfl rfl rfl rfl (by kernel_rfl) Try.func10 (by kernel_rfl)
    (of_decide_eq_true (by kernel_rfl)) (by unfold Func.isWrapper; first | (rw [if_pos (by decide +kernel)]; kernel_rfl) | (rw [if_neg (by decide +kernel)]; exact ⟨rfl, rfl⟩))
    (fun os started H enc _ => lifted os started H enc)

end Go.Proofs.Ytcklfnpgnbhklaa.shrinkMatrix
