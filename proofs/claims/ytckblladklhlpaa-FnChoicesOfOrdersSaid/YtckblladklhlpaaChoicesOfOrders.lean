/- PROVED: the law FnChoicesOfOrders returns true for every input, and each of its arguments reads afterwards as before. No conditions. -/
import Derived.Test.YtckblladklhlpaaRows
import Derived.WalkKit
import Derived.WalkSpells
import Derived.WalkLawsBesides
import Derived.Deep.QuietTactic
import Derived.BigQuiet
import Derived.ProofKit
import Derived.OpenShut
import Derived.ShutString
import Derived.ChangeOld
import Derived.Below
import Derived.Lib.SmallJoins
import Derived.Lib.Hide
import Derived.Maps.AppendAt
import Derived.Deep.AppendLies
import Derived.Deep.RegionHeld3
import Derived.Deep.DeepCutAuto
import Derived.StillTail
import Derived.Lib.SliceRun
import Derived.Test.YtckblladklhlpaaChoicesOfOrdersP1
namespace Go.Proofs.Ytckblladklhlpaa.choicesOfOrders
open Go Go.RowKit
set_option linter.unusedVariables false
set_option linter.unusedSimpArgs false
set_option maxHeartbeats 400000
theorem iChoiceOf_any (n : Int) (a : Option Addr) (xs : List Int) (cap : Nat) (s : Int) (w : World) (hn : -9223372036854775808 ≤ n ∧ n ≤ 9223372036854775807) (hx : Rd w a xs) (hi : -9223372036854775808 ≤ s ∧ s ≤ 9223372036854775807) :
    Calls Try.prog 31 #[.agg #[.int .i64 n, .slice a xs.length cap], .int .i64 s] w fun e w' => e = .returned (.tuple #[.int .i64 (choV n xs s), .bool (choOk n xs s)]) ∧ Below w.heap.size w w' := by
  have hx1 := hx.alloc (.cells #[.int .i64 n, .slice a xs.length cap] 26)
  cases hr : relB n xs
  · have HE : Hid (choOk n xs s = false) := by simp [Hid, choOk, hr]
    have H2 : Hid (choV n xs s = 0) := by simp [Hid, choV, HE.out]
    go_enter Try.func31, Try.ntmps31
    go_wp2_with fail
    refine (iIsRelation_any _ _ _ _ _ hn hx1).mono ?_
    rw [hr]
    rintro e w1 ⟨rfl, hb1⟩
    have bw1 : Below w.heap.size w w1 := Below.trans (by repeat (first | exact Below.refl _ _ | assumption | refine Below.alloc ?_ (by first | exact Nat.le_refl _ | (simp only [World.size_alloc, World.size_setCell, World.size_drew]; omega) | omega) _ | refine Below.setCell ?_ (by first | exact Nat.le_refl _ | (simp only [World.size_alloc, World.size_setCell, World.size_drew]; omega) | omega) _ | refine Below.drew ?_)) (hb1.mono (by first | (simp only [World.size_alloc, World.size_setCell, World.size_drew]; omega) | omega))
    go_wp2_with fail
    go_ret2
    exact ⟨ret_ib H2.out.symm HE.out.symm, bw1⟩
  · have hp := relB_p hr
    have n0 := hp.n0
    have n1 := hp.n1
    cases he : inB s 0 (2 ^ n.toNat - 1)
    · have HE : Hid (choOk n xs s = false) := by simp [Hid, choOk, he]
      have H2 : Hid (choV n xs s = 0) := by simp [Hid, choV, HE.out]
      have HB := Lib.hid he
      clear he
      go_enter Try.func31, Try.ntmps31
      go_wp2_with fail
      refine (iIsRelation_any _ _ _ _ _ hn hx1).mono ?_
      rw [hr]
      rintro e w1 ⟨rfl, hb1⟩
      have ⟨z1, c1, d1⟩ := (Box2.new w _ _ _).below hb1
      have bw1 : Below w.heap.size w w1 := Below.trans (by repeat (first | exact Below.refl _ _ | assumption | refine Below.alloc ?_ (by first | exact Nat.le_refl _ | (simp only [World.size_alloc, World.size_setCell, World.size_drew]; omega) | omega) _ | refine Below.setCell ?_ (by first | exact Nat.le_refl _ | (simp only [World.size_alloc, World.size_setCell, World.size_drew]; omega) | omega) _ | refine Below.drew ?_)) (hb1.mono (by first | (simp only [World.size_alloc, World.size_setCell, World.size_drew]; omega) | omega))
      go_wp2_with fail
      refine (isSet_any _ _ _ n0 n1).mono ?_
      rw [HB.out]
      rintro e w' ⟨rfl, rfl⟩
      go_wp2_with fail
      go_ret2
      exact ⟨ret_ib H2.out.symm HE.out.symm, bw1⟩
    · have HE : Hid (choOk n xs s = true) := by simp [Hid, choOk, he, hr]
      have H2 : Hid (choV n xs s = ((chN xs s : Nat) : Int)) := by simp [Hid, choV, HE.out]
      have ⟨s0, s1⟩ := inB_iff.1 he
      have hl : xs.length ≤ 10 := by have := hp.len; omega
      have hs1 : s < 1024 := by
        have : n.toNat = xs.length := by have := hp.len; omega
        rw [this] at s1; have := (pow10 hl).2; omega
      have hs2 : s ≤ 9223372036854775807 := by omega
      have HB := Lib.hid he
      clear he s1
      go_enter Try.func31, Try.ntmps31
      go_wp2_with fail
      refine (iIsRelation_any _ _ _ _ _ hn hx1).mono ?_
      rw [hr]
      rintro e w1 ⟨rfl, hb1⟩
      have ⟨z1, c1, d1⟩ := (Box2.new w _ _ _).below hb1
      have bw1 : Below w.heap.size w w1 := Below.trans (by repeat (first | exact Below.refl _ _ | assumption | refine Below.alloc ?_ (by first | exact Nat.le_refl _ | (simp only [World.size_alloc, World.size_setCell, World.size_drew]; omega) | omega) _ | refine Below.setCell ?_ (by first | exact Nat.le_refl _ | (simp only [World.size_alloc, World.size_setCell, World.size_drew]; omega) | omega) _ | refine Below.drew ?_)) (hb1.mono (by first | (simp only [World.size_alloc, World.size_setCell, World.size_drew]; omega) | omega))
      have hx2 := hx.below bw1
      clear hb1
      go_wp2_with fail
      refine (isSet_any _ _ _ n0 n1).mono ?_
      rw [HB.out]
      rintro e w' ⟨rfl, rfl⟩
      go_wp2_with fail
      go_loop [6, 22] (fun v i => ∃ k : Nat, k ≤ xs.length ∧ i = .int .i64 k ∧ v = .int .i64 (pickTo (chF xs s) k)) (fun _ i => xs.length - (intOf i).toNat)
      case atStart => exact ⟨0, Nat.zero_le _, rfl, rfl⟩
      case round =>
        obtain ⟨k, hk, rfl, rfl⟩ := hrel
        by_cases hlt : k < xs.length
        · obtain ⟨b, off, rfl, hbl, hc⟩ := hx2.cell k hlt
          have hpi := hp.pos k hlt
          have hsi := hp.small k hlt
          have hob := pickTo_small (chF xs s) (k := k) (by omega)
          have hand := and_i (a := nth xs k) (b := s) hpi (by omega) s0 (by omega)
          have hor := Lib.hid (or_bit (b := pickTo (chF xs s) k) (k := k) (by omega) (by omega))
          clear hob
          cases hin : hasB s k
          · have HF : Hid (chF xs s k = false) := by simp [Hid, chF, hin]
            have HI := Lib.hid hin
            clear hand hin
            go_wp2_with fail
            refine (hasElement_any _ _ _ s0 hs2 (by omega)).mono ?_
            rw [HI.out]
            rintro e w' ⟨rfl, rfl⟩
            go_wp2_with fail
            go_round
            case rel => exact ⟨k + 1, by omega, by go_num, by simp [pickTo, HF.out]⟩
            case measure => simp [intOf]; omega
          · have HI := Lib.hid hin
            cases hz : ((nth xs k).toNat &&& s.toNat == 0)
            · have hne : (bits BinOp.and IntKind.i64 (nth xs k) s == 0) = false := by rw [hand, nat_beq0]; exact hz
              have HF : Hid (chF xs s k = false) := by simp only [Hid, chF, hin, hz]; rfl
              clear hand hin hz
              go_wp2_with fail
              refine (hasElement_any _ _ _ s0 hs2 (by omega)).mono ?_
              rw [HI.out]
              rintro e w' ⟨rfl, rfl⟩
              go_wp2_with fail
              go_round
              case rel => exact ⟨k + 1, by omega, by go_num, by simp [pickTo, HF.out]⟩
              case measure => simp [intOf]; omega
            · have hne : (bits BinOp.and IntKind.i64 (nth xs k) s == 0) = true := by rw [hand, nat_beq0]; exact hz
              have HF : Hid (chF xs s k = true) := by simp only [Hid, chF, hin, hz]; rfl
              clear hand hin hz
              go_wp2_with fail
              refine (hasElement_any _ _ _ s0 hs2 (by omega)).mono ?_
              rw [HI.out]
              rintro e w' ⟨rfl, rfl⟩
              go_wp2_with fail
              go_round
              case rel => exact ⟨k + 1, by omega, by go_num, val_int (by rw [hor.out]; simp [pickTo, HF.out])⟩
              case measure => simp [intOf]; omega
        · obtain rfl : k = xs.length := by omega
          go_wp2_with fail
          go_ret2
          exact ⟨ret_ib H2.out.symm HE.out.symm, bw1⟩

theorem sliceClone_any (a : Option Addr) (xs : List Int) (cap : Nat) (w : World) (hx : Rd w a xs) (hn : xs.length ≤ 1048576) :
    Calls Try.prog 67 #[.slice a xs.length cap] w fun e w' => ∃ a' cap', e = .returned (.slice a' xs.length cap') ∧ OwnI w' w.heap.size (.slice a' xs.length cap') xs ∧ Below w.heap.size w w' := by
  obtain ⟨i0, hi, hz0, hz1, hz2⟩ := info_parts infoInt
  have hown : (w.alloc (.cells #[] 3)).ownsRow w.heap.size 3 1 (.slice (some ⟨w.heap.size, 0, none⟩) 0 0) 0 [] := World.ownsRow_lit w #[] 0 (Nat.le_refl _) (by simp [maxLen]) (by simp)
  cases a with
  | none =>
    have h0 : xs = [] := by
      rcases xs with _ | ⟨x, t⟩
      · rfl
      · obtain ⟨b, off, e, _⟩ := hx.cell 0 (by simp)
        cases e
    subst h0
    have hq := Lib.run_eql_slice_nil (P := Try.prog) w 24 3 none 0 cap 0 0 Try.underlying24
    simp only [Option.isNone_none] at hq
    go_enter Try.func67, Try.ntmps67
    go_wp2_with fail
    go_ret
    exact ⟨none, 0, rfl, OwnI.nil _ _, Below.refl _ _⟩
  | some ad =>
    have hx1 := hx.alloc (.cells #[] 3)
    have hq := Lib.run_eql_slice_nil (P := Try.prog) w 24 3 (some ad) xs.length cap 0 0 Try.underlying24
    simp only [Option.isNone_some] at hq
    go_enter Try.func67, Try.ntmps67
    go_wp2_with (at_builtin; refine wpList_append_own _ rfl _ _ 24 rfl w.heap.size 3 i0 (.int .i64 0) 1 8 Try.underlying24 hi hz0 hz1 hz2 rfl (by decide) _ 0 [] rfl hown ad xs.length cap (xs.map (Value.int .i64)) rfl (by simp) ?c1 ?c2 ?c3 ?c4 ?c5 ?_)
    case c1 => exact rd_news hx1
    case c2 => exact ints_one xs
    case c3 => unfold maxLen; omega
    case c4 => omega
    case c5 => simp
    · intro v' w1 hown' hgrow _
      try simp only [Nat.zero_add, List.nil_append] at hown'
      have hb : Below w.heap.size w w1 := ((Below.refl _ _).alloc (Nat.le_refl _) _).grown hgrow (by simp) (fun b e => by simp [Value.ownBlock] at e; omega)
      obtain ⟨a', cap', rfl⟩ := OwnI.form (xs := xs) hown'
      have HO := Lib.hid hown'
      clear hown' hgrow hown
      go_wp2_with fail
      go_ret
      exact ⟨a', cap', rfl, HO.out, hb⟩

theorem iCloseRelation_any (n : Int) (a : Option Addr) (xs : List Int) (cap : Nat) (w : World) (hn : -9223372036854775808 ≤ n ∧ n ≤ 9223372036854775807) (hx : Rd w a xs) :
    Calls Try.prog 21 #[.agg #[.int .i64 n, .slice a xs.length cap]] w (GotO w (cloN n xs) (cloL n xs) (relB n xs)) := by
  have hx1 := (hx.alloc (.cells #[.int .i64 n, .slice a xs.length cap] 26)).alloc (.cells #[.int .i64 0, .slice none 0 0] 26)
  cases hr : relB n xs
  · have H1 : Hid (cloN n xs = 0) := by simp [Hid, cloN, hr]
    have H2 : Hid (cloL n xs = []) := by simp [Hid, cloL, hr]
    go_enter Try.func21, Try.ntmps21
    go_wp2_with fail
    refine (iIsRelation_any _ _ _ _ _ hn hx1).mono ?_
    rintro e w1 ⟨rfl, hb1⟩
    have hz := hb1.size
    simp only [World.size_alloc] at hz
    obtain ⟨hc, hf⟩ := bcell hb1
    have bw1 : Below w.heap.size w w1 := Below.trans (by repeat (first | exact Below.refl _ _ | assumption | refine Below.alloc ?_ (by first | exact Nat.le_refl _ | (simp only [World.size_alloc, World.size_setCell, World.size_drew]; omega) | omega) _ | refine Below.setCell ?_ (by first | exact Nat.le_refl _ | (simp only [World.size_alloc, World.size_setCell, World.size_drew]; omega) | omega) _ | refine Below.drew ?_)) (hb1.mono (by first | (simp only [World.size_alloc, World.size_setCell, World.size_drew]; omega) | omega))
    go_wp2_with fail
    refine bodyPost_ret (v := .tuple #[.agg #[.int .i64 0, .slice none 0 0], .bool false]) (by simp [results, Try.results21, go_sem, hc]) rfl ?_
    refine ⟨none, 0, ?_, ?_, ?_⟩
    · rw [H1.out, H2.out]; rfl
    · rw [H2.out]; exact OwnI.nil _ _
    · exact (bw1.setCell (by simp) _).setCell (by simp) _
  · have hp := relB_p hr
    have hsm := hp.sm
    have hl10 : xs.length ≤ 10 := by have := hp.len; have := hp.n1; omega
    have H1 : Hid (cloN n xs = n) := by simp [Hid, cloN, hr]
    have H2 : Hid (cloL n xs = clAll xs xs.length) := by simp [Hid, cloL, hr]
    go_enter Try.func21, Try.ntmps21
    go_wp2_with fail
    refine (iIsRelation_any _ _ _ _ _ hn hx1).mono ?_
    rintro e w1 ⟨rfl, hb1⟩
    have A1 : Box2 w1 w.heap.size (.int .i64 n) (.slice a xs.length cap) := ((Box2.new w _ _ _).below ((Below.refl _ _).alloc (Nat.le_refl _) _)).below hb1
    have R1 : Var2 w1 (w.heap.size + 1) (.int .i64 0) (.slice none 0 0) := by
      have := (Var2.new (w.alloc (.cells #[.int .i64 n, .slice a xs.length cap] 26)) (.int .i64 0) (.slice none 0 0) 26).below hb1
      simpa using this
    have ⟨zA, cA, dA⟩ := A1
    have bw1 : Below w.heap.size w w1 := Below.trans (by repeat (first | exact Below.refl _ _ | assumption | refine Below.alloc ?_ (by first | exact Nat.le_refl _ | (simp only [World.size_alloc, World.size_setCell, World.size_drew]; omega) | omega) _ | refine Below.setCell ?_ (by first | exact Nat.le_refl _ | (simp only [World.size_alloc, World.size_setCell, World.size_drew]; omega) | omega) _ | refine Below.drew ?_)) (hb1.mono (by first | (simp only [World.size_alloc, World.size_setCell, World.size_drew]; omega) | omega))
    have hz1 : w.heap.size + 2 ≤ w1.heap.size := by have := R1.1.1; omega
    clear hb1
    go_wp2_with fail
    refine (sliceClone_any _ _ _ _ (hx.below bw1) (by omega)).mono ?_
    rintro e w2 ⟨a2, cap2, rfl, ho2, ht2⟩
    have A2 := A1.below ht2
    have R2 := R1.below ht2
    have bw2 := bw1.trans (ht2.mono bw1.size)
    have hz2 := ht2.size
    have ho2' := ho2.mono (B' := w.heap.size + 2) hz1
    clear A1 R1 cA dA ho2 ht2
    go_wp2_with fail
    go_loopw [16] (fun i wr => ∃ k : Nat, k ≤ xs.length ∧ i = .int .i64 k ∧ OwnI wr (w.heap.size + 2) (.slice a2 xs.length cap2) (clAll xs k) ∧ Below w.heap.size w wr ∧ Box2 wr w.heap.size (.int .i64 n) (.slice a xs.length cap) ∧ Var2 wr (w.heap.size + 1) (.int .i64 0) (.slice none 0 0)) (fun i _ => xs.length - (intOf i).toNat)
    case atStart => exact ⟨0, Nat.zero_le _, rfl, ho2', bw2, A2, R2⟩
    case round =>
      obtain ⟨k, hk, rfl, hown, hb, hA, hR⟩ := hrel
      by_cases hlt : k < xs.length
      · go_wp2_with fail
        obtain ⟨wo, hwo⟩ : ∃ wo : World, wo = wr := ⟨_, rfl⟩
        go_loopw [21] (fun i wi => ∃ j : Nat, j ≤ xs.length ∧ i = .int .i64 j ∧ OwnI wi (w.heap.size + 2) (.slice a2 xs.length cap2) (clRow (clAll xs k) k j) ∧ Below w.heap.size w wi ∧ Box2 wi w.heap.size (.int .i64 n) (.slice a xs.length cap) ∧ Var2 wi (w.heap.size + 1) (.int .i64 0) (.slice none 0 0)) (fun i _ => xs.length - (intOf i).toNat)
        case atStart => exact ⟨0, Nat.zero_le _, rfl, hown, hb, hA, hR⟩
        case round =>
          obtain ⟨j, hj, rfl, hown, hb, hA, hR⟩ := hrel
          by_cases hjl : j < xs.length
          · obtain ⟨ys, hys⟩ : ∃ ys, ys = clRow (clAll xs k) k j := ⟨_, rfl⟩
            have hyl : ys.length = xs.length := by rw [hys, clRow_len, clAll_len]
            have hysm : Small ys := by rw [hys]; exact clRow_small (clAll_small hsm k hk) (by rw [clAll_len]; exact hlt) j (by rw [clAll_len]; exact hj)
            have hnext : clRow (clAll xs k) k (j + 1) = clStep ys k j := by rw [hys]; rfl
            rw [← hys] at hown
            obtain ⟨g, rfl, hg1, hg2⟩ := hown.head (by omega)
            have ⟨ci, fi⟩ := hown.at' hyl.symm (i := j) (by omega)
            have ⟨ck, fk⟩ := hown.at' hyl.symm (i := k) (by omega)
            have ⟨s0, s1⟩ := hysm j (by omega)
            have ⟨t0, t1⟩ := hysm k (by omega)
            have s2 : nth ys j ≤ 9223372036854775807 := by omega
            have hor := or_i (a := nth ys j) (b := nth ys k) s0 (by omega) t0 (by omega)
            have hput := hown.put hyl.symm j (bits .or .i64 (nth ys j) (nth ys k))
            rw [hor] at hput
            have HY := Lib.hid hyl
            have HN := Lib.hid hnext
            have HO := Lib.hid hor
            have HP := Lib.hid hput
            have j0 : (0 : Int) ≤ (j : Int) := by omega
            have j1 : (j : Int) < (xs.length : Int) := by omega
            have k0 : (0 : Int) ≤ (k : Int) := by omega
            have k1 : (k : Int) < (xs.length : Int) := by omega
            clear hys hyl hysm hnext hor hput
            cases hin : hasB (nth ys j) k
            · go_wp2_with fail
              refine (hasElement_any _ _ _ s0 s2 k0).mono ?_
              rintro e w' ⟨rfl, rfl⟩
              go_wp2_with fail
              go_roundw
              case rel => exact ⟨j + 1, by omega, by go_num, by rw [HN.out, clStep, hin]; exact hown, hb, hA, hR⟩
              case measure => simp [intOf]; omega
            · go_wp2_with fail
              refine (hasElement_any _ _ _ s0 s2 k0).mono ?_
              rintro e w' ⟨rfl, rfl⟩
              go_wp2_with fail
              go_region
              all_goals
                go_wp2_with fail
                go_roundw
                case rel =>
                  refine ⟨j + 1, by omega, by go_num, ?_, ?_, ?_, ?_⟩
                  · rw [HN.out, clStep, hin, if_pos rfl, ← HO.out]
                    have := HP.out.1
                    rw [← HO.out] at this
                    exact this
                  · exact (hb.drew).setCell (p := ⟨g, j, none⟩) (show w.heap.size ≤ g by omega) _
                  · exact hA.set (p := ⟨g, j, none⟩) _ (show w.heap.size ≠ g by omega)
                  · exact hR.other (p := ⟨g, j, none⟩) _ (show w.heap.size + 1 ≠ g by omega)
                case measure => simp [intOf]; omega
          · obtain rfl : j = xs.length := by omega
            go_wp2_with fail
            go_roundw
            case rel => exact ⟨k + 1, by omega, by go_num, by show OwnI wr _ _ (clRow (clAll xs k) k xs.length); exact hown, hb, hA, hR⟩
            case measure => simp [intOf]; omega
      · obtain rfl : k = xs.length := by omega
        have ⟨zA, cA, dA⟩ := hA
        have ⟨⟨zR, cR, dR⟩, fR, gR⟩ := hR
        go_wp2_with fail
        have R3 := hR.set (.int .i64 n) (.slice a2 xs.length cap2)
        refine bodyPost_ret (v := .tuple #[.agg #[.int .i64 n, .slice a2 xs.length cap2], .bool true]) (by have ⟨⟨_, q1, q2⟩, _, _⟩ := R3; simp [results, Try.results21, go_sem, q1, q2]) rfl ?_
        refine ⟨a2, cap2, ?_, ?_, ?_⟩
        · rw [H1.out, H2.out, clAll_len]
        · rw [H2.out, clAll_len]
          exact ((hown.setBelow (p := ⟨w.heap.size + 1, 0, none⟩) (show w.heap.size + 1 < w.heap.size + 2 by omega) _).setBelow (p := ⟨w.heap.size + 1, 1, none⟩) (show w.heap.size + 1 < w.heap.size + 2 by omega) _).mono (by omega)
        · exact (hb.setCell (p := ⟨w.heap.size + 1, 0, none⟩) (show w.heap.size ≤ w.heap.size + 1 by omega) _).setCell (p := ⟨w.heap.size + 1, 1, none⟩) (show w.heap.size ≤ w.heap.size + 1 by omega) _

theorem iIsAcyclic_any (n : Int) (a : Option Addr) (xs : List Int) (cap : Nat) (w : World) (hn : -9223372036854775808 ≤ n ∧ n ≤ 9223372036854775807) (hx : Rd w a xs) :
    Calls Try.prog 33 #[.agg #[.int .i64 n, .slice a xs.length cap]] w fun e w' => e = .returned (.tuple #[.bool (acyB n xs), .bool (relB n xs)]) ∧ Below w.heap.size w w' := by
  have hx1 := hx.alloc (.cells #[.int .i64 n, .slice a xs.length cap] 26)
  cases hr : relB n xs
  · have HE : Hid (acyB n xs = false) := by simp [Hid, acyB, hr]
    have H2 : Hid (cloL n xs = []) := by simp [Hid, cloL, hr]
    go_enter Try.func33, Try.ntmps33
    go_wp2_with fail
    refine (iCloseRelation_any _ _ _ _ _ hn hx1).mono ?_
    unfold GotO
    rw [hr, H2.out]
    rintro e w1 ⟨a1, cap1, rfl, ho, hb1⟩
    have bw1 : Below w.heap.size w w1 := Below.trans (by repeat (first | exact Below.refl _ _ | assumption | refine Below.alloc ?_ (by first | exact Nat.le_refl _ | (simp only [World.size_alloc, World.size_setCell, World.size_drew]; omega) | omega) _ | refine Below.setCell ?_ (by first | exact Nat.le_refl _ | (simp only [World.size_alloc, World.size_setCell, World.size_drew]; omega) | omega) _ | refine Below.drew ?_)) (hb1.mono (by first | (simp only [World.size_alloc, World.size_setCell, World.size_drew]; omega) | omega))
    have zz := bw1.size
    go_wp2_with fail
    go_loop [16] (fun i => i = .int .i64 0) (fun i => 0)
    case atStart => rfl
    case round =>
      obtain rfl := hrel
      go_wp2_with fail
      go_ret2
      exact ⟨ret_bb HE.out.symm rfl, (by repeat (first | exact Below.refl _ _ | assumption | refine Below.alloc ?_ (by first | exact Nat.le_refl _ | (simp only [World.size_alloc, World.size_setCell, World.size_drew]; omega) | omega) _ | refine Below.setCell ?_ (by first | exact Nat.le_refl _ | (simp only [World.size_alloc, World.size_setCell, World.size_drew]; omega) | omega) _ | refine Below.drew ?_))⟩
  · have hp := relB_p hr
    have HE : Hid (acyB n xs = acB xs) := by simp [Hid, acyB, hr]
    have H2 : Hid (cloL n xs = clo xs) := by simp [Hid, cloL, hr, clo]
    have hcl := clo_len xs
    have hsm : Small (clo xs) := clAll_small hp.sm _ (Nat.le_refl _)
    go_enter Try.func33, Try.ntmps33
    go_wp2_with fail
    refine (iCloseRelation_any _ _ _ _ _ hn hx1).mono ?_
    unfold GotO
    rw [hr, H2.out]
    rintro e w1 ⟨a1, cap1, rfl, ho, hb1⟩
    have bw1 : Below w.heap.size w w1 := Below.trans (by repeat (first | exact Below.refl _ _ | assumption | refine Below.alloc ?_ (by first | exact Nat.le_refl _ | (simp only [World.size_alloc, World.size_setCell, World.size_drew]; omega) | omega) _ | refine Below.setCell ?_ (by first | exact Nat.le_refl _ | (simp only [World.size_alloc, World.size_setCell, World.size_drew]; omega) | omega) _ | refine Below.drew ?_)) (hb1.mono (by first | (simp only [World.size_alloc, World.size_setCell, World.size_drew]; omega) | omega))
    have zz := bw1.size
    have hrd := ho.rd
    obtain ⟨ys, hys⟩ : ∃ ys, ys = clo xs := ⟨_, rfl⟩
    rw [← hys] at hrd hcl hsm
    have HY := Lib.hid hys
    have HC := Lib.hid hcl
    have hyl : ys.length ≤ 10 := by have := hp.len; have := hp.n1; omega
    rw [← hys]
    clear hys hcl ho hb1
    go_wp2_with fail
    go_loop [16] (fun i => ∃ k : Nat, k ≤ ys.length ∧ i = .int .i64 k ∧ ∀ j, j < k → hasB (nth ys j) j = false) (fun i => ys.length - (intOf i).toNat)
    case atStart => exact ⟨0, Nat.zero_le _, rfl, fun j hj => by omega⟩
    case round =>
      obtain ⟨k, hk, rfl, hall⟩ := hrel
      have HA := Lib.hid hall
      clear hall
      by_cases hlt : k < ys.length
      · obtain ⟨b, off, rfl, hbl, hc⟩ := (hrd.alloc (.cells #[.int .i64 (cloN n xs), .slice a1 ys.length cap1] 26)).cell k hlt
        have ⟨s0, s1⟩ := hsm k hlt
        have s2 : nth ys k ≤ 9223372036854775807 := by omega
        cases hin : hasB (nth ys k) k
        · have HI := Lib.hid hin
          go_wp2_with fail
          refine (hasElement_any _ (k : Int) _ s0 s2 (Int.natCast_nonneg k)).mono ?_
          rw [hin]
          rintro e w' ⟨rfl, rfl⟩
          go_wp2_with fail
          go_round
          case rel =>
            refine ⟨k + 1, by omega, by go_num, fun j hj => ?_⟩
            by_cases e : j = k
            · rw [e]; exact HI.out
            · exact HA.out j (by omega)
          case measure => simp [intOf]; omega
        · have HN : Hid (acB xs = false) := by
            show acB xs = false
            rw [← Bool.not_eq_true, acB_iff]
            intro h
            have := h k (by have := HC.out; omega)
            rw [← HY.out, hin] at this
            cases this
          go_wp2_with fail
          refine (hasElement_any _ (k : Int) _ s0 s2 (Int.natCast_nonneg k)).mono ?_
          rw [hin]
          rintro e w' ⟨rfl, rfl⟩
          go_wp2_with fail
          go_ret2
          exact ⟨ret_bb (by rw [HE.out, HN.out]) rfl, (by repeat (first | exact Below.refl _ _ | assumption | refine Below.alloc ?_ (by first | exact Nat.le_refl _ | (simp only [World.size_alloc, World.size_setCell, World.size_drew]; omega) | omega) _ | refine Below.setCell ?_ (by first | exact Nat.le_refl _ | (simp only [World.size_alloc, World.size_setCell, World.size_drew]; omega) | omega) _ | refine Below.drew ?_))⟩
      · obtain rfl : k = ys.length := by omega
        have HN : Hid (acB xs = true) := by
          show acB xs = true
          rw [acB_iff]
          intro i hi
          have := HA.out i (by have := HC.out; omega)
          rw [HY.out] at this
          exact this
        go_wp2_with fail
        go_ret2
        exact ⟨ret_bb (by rw [HE.out, HN.out]) rfl, (by repeat (first | exact Below.refl _ _ | assumption | refine Below.alloc ?_ (by first | exact Nat.le_refl _ | (simp only [World.size_alloc, World.size_setCell, World.size_drew]; omega) | omega) _ | refine Below.setCell ?_ (by first | exact Nat.le_refl _ | (simp only [World.size_alloc, World.size_setCell, World.size_drew]; omega) | omega) _ | refine Below.drew ?_))⟩

theorem cfAcyclic_any (n : Int) (a : Option Addr) (xs : List Int) (cap : Nat) (w : World) (hx : Rd w a xs) (hr : RelP n xs) :
    Calls Try.prog 83 #[.agg #[.int .i64 n, .slice a xs.length cap]] w fun e w' => e = .returned (.bool (acB xs)) ∧ Below w.heap.size w w' := by
  have hl : xs.length ≤ 10 := by have := hr.len; have := hr.n1; omega
  have hpw := pow10 hl
  obtain rfl : n = (xs.length : Int) := hr.len.symm
  obtain ⟨p, hP⟩ : ∃ p : Nat, p = 2 ^ xs.length := ⟨_, rfl⟩
  have hpi : (p : Int) = 2 ^ xs.length := by rw [hP]; simp
  have hw : wrap64 (2 ^ xs.length) = (p : Int) := by rw [← hpi]; exact IntWalk.wrap64_in _ ⟨by omega, by omega⟩
  have hp1 : p ≤ 1024 := by omega
  have hp0 : 1 ≤ p := by omega
  have HPI := Lib.hid hpi
  have HP := Lib.hid hP
  clear hpw hpi hP
  go_enter Try.func83, Try.ntmps83
  go_wp2_with fail
  have A0 := Box2.new w (.int .i64 xs.length) (.slice a xs.length cap) 26
  have bw0 : Below w.heap.size w (w.alloc (.cells #[.int .i64 xs.length, .slice a xs.length cap] 26)) := (by repeat (first | exact Below.refl _ _ | assumption | refine Below.alloc ?_ (by first | exact Nat.le_refl _ | (simp only [World.size_alloc, World.size_setCell, World.size_drew]; omega) | omega) _ | refine Below.setCell ?_ (by first | exact Nat.le_refl _ | (simp only [World.size_alloc, World.size_setCell, World.size_drew]; omega) | omega) _ | refine Below.drew ?_))
  obtain ⟨w0, hw0⟩ : ∃ x : World, x = w.alloc (.cells #[.int .i64 xs.length, .slice a xs.length cap] 26) := ⟨_, rfl⟩
  rw [← hw0] at A0 bw0 ⊢
  clear hw0
  go_loopw [3] (fun i wr => ∃ k : Nat, 1 ≤ k ∧ k ≤ p ∧ i = .int .i64 k ∧ (∀ s, 0 < s → s < k → chN xs ((s : Nat) : Int) ≠ 0) ∧ Below w.heap.size w wr ∧ Box2 wr w.heap.size (.int .i64 xs.length) (.slice a xs.length cap)) (fun i _ => p - (intOf i).toNat)
  case atStart => exact ⟨1, Nat.le_refl _, hp0, rfl, fun s h1 h2 => by omega, bw0, A0⟩
  case round =>
    obtain ⟨k, hk1, hk, rfl, hall, hb, hA⟩ := hrel
    have HA := Lib.hid hall
    have ⟨zA, cA, dA⟩ := hA
    have hxr := hx.below hb
    clear hall
    by_cases hlt : k < p
    · go_wp2_with fail
      refine (cfChoice_any _ _ _ _ _ _ hxr hr (by omega) (by rw [← HPI.out]; omega)).mono ?_
      rintro e w2 ⟨rfl, hb2⟩
      have hA2 := hA.below hb2
      have bw2 := hb.trans (hb2.mono hb.size)
      cases hz : (((chN xs (k : Int) : Nat) : Int) == 0)
      · have HZ := Lib.hid hz
        go_wp2_with fail
        go_roundw
        case rel =>
          refine ⟨k + 1, by omega, by omega, by go_num, fun s h1 h2 => ?_, bw2, hA2⟩
          by_cases e : s = k
          · subst e
            have := HZ.out
            intro e2
            rw [e2] at this
            cases this
          · exact HA.out s h1 (by omega)
        case measure => simp [intOf]; omega
      · have hno : acB xs = false := by
          rw [← Bool.not_eq_true, acy_eq hr]
          intro h
          refine h k (by omega) (by rw [← HP.out]; exact hlt) ?_
          have := beq_iff_eq.1 hz
          omega
        have HN := Lib.hid hno
        clear hno
        go_wp2_with fail
        go_ret
        exact ⟨ret_bool HN.out.symm, bw2⟩
    · obtain rfl : k = p := by omega
      have hyes : acB xs = true := (acy_eq hr).2 (fun s h0 h1 => HA.out s h0 (by rw [HP.out]; exact h1))
      have HY := Lib.hid hyes
      clear hyes
      go_wp2_with fail
      go_ret
      exact ⟨ret_bool HY.out.symm, hb⟩

theorem sIsAcyclic_any (n : Int) (a : Option Addr) (xs : List Int) (cap : Nat) (w : World) (hn : -9223372036854775808 ≤ n ∧ n ≤ 9223372036854775807) (hx : Rd w a xs) :
    Calls Try.prog 34 #[.agg #[.int .i64 n, .slice a xs.length cap]] w fun e w' => e = .returned (.tuple #[.bool (acyB n xs), .bool (relB n xs)]) ∧ Below w.heap.size w w' := by
  have hx1 := hx.alloc (.cells #[.int .i64 n, .slice a xs.length cap] 26)
  cases hr : relB n xs
  · have HE : Hid (acyB n xs = false) := by simp [Hid, acyB, hr]
    go_enter Try.func34, Try.ntmps34
    go_wp2_with fail
    refine (orRelation_any _ _ _ _ _ hx1).mono ?_
    rw [hr]
    rintro e w1 ⟨rfl, hb1⟩
    have bw1 : Below w.heap.size w w1 := Below.trans (by repeat (first | exact Below.refl _ _ | assumption | refine Below.alloc ?_ (by first | exact Nat.le_refl _ | (simp only [World.size_alloc, World.size_setCell, World.size_drew]; omega) | omega) _ | refine Below.setCell ?_ (by first | exact Nat.le_refl _ | (simp only [World.size_alloc, World.size_setCell, World.size_drew]; omega) | omega) _ | refine Below.drew ?_)) (hb1.mono (by first | (simp only [World.size_alloc, World.size_setCell, World.size_drew]; omega) | omega))
    go_wp2_with fail
    go_ret2
    exact ⟨ret_bb HE.out.symm rfl, bw1⟩
  · have hp := relB_p hr
    have HE : Hid (acyB n xs = acB xs) := by simp [Hid, acyB, hr]
    go_enter Try.func34, Try.ntmps34
    go_wp2_with fail
    refine (orRelation_any _ _ _ _ _ hx1).mono ?_
    rw [hr]
    rintro e w1 ⟨rfl, hb1⟩
    have ⟨z1, c1, d1⟩ := (Box2.new w _ _ _).below hb1
    have bw1 : Below w.heap.size w w1 := Below.trans (by repeat (first | exact Below.refl _ _ | assumption | refine Below.alloc ?_ (by first | exact Nat.le_refl _ | (simp only [World.size_alloc, World.size_setCell, World.size_drew]; omega) | omega) _ | refine Below.setCell ?_ (by first | exact Nat.le_refl _ | (simp only [World.size_alloc, World.size_setCell, World.size_drew]; omega) | omega) _ | refine Below.drew ?_)) (hb1.mono (by first | (simp only [World.size_alloc, World.size_setCell, World.size_drew]; omega) | omega))
    go_wp2_with fail
    refine (cfAcyclic_any _ _ _ _ _ (hx.below bw1) hp).mono ?_
    rintro e w2 ⟨rfl, hb2⟩
    go_wp2_with fail
    go_ret2
    exact ⟨ret_bb HE.out.symm rfl, bw1.trans (hb2.mono bw1.size)⟩

/-- the set of all elements above one of those of a set that are less than k -/
def aboveTo (xs : List Int) (s : Int) : Nat → Nat
  | 0 => 0
  | k+1 => if hasB s k then aboveTo xs s k ||| (nth xs k).toNat else aboveTo xs s k
theorem aboveTo_lt {n : Int} {xs : List Int} (hp : RelP n xs) (s : Int) : ∀ k, k ≤ xs.length → aboveTo xs s k < 2 ^ 10
  | 0, _ => by simp [aboveTo]
  | k+1, hk => by
    have h := aboveTo_lt hp s k (by omega)
    have h1 := hp.small k (by omega)
    have h0 := hp.pos k (by omega)
    simp only [aboveTo]
    split
    · exact or_lt h (by omega)
    · exact h
theorem aboveTo_bit (xs : List Int) (s : Int) (j : Nat) : ∀ k, (aboveTo xs s k).testBit j = true ↔ ∃ i, i < k ∧ hasB s i = true ∧ (nth xs i).toNat.testBit j = true
  | 0 => by simp [aboveTo]
  | k+1 => by
    have ih := aboveTo_bit xs s j k
    simp only [aboveTo]
    cases hb : hasB s k
    · rw [if_neg (by simp), ih]
      constructor
      · rintro ⟨i, h1, h2, h3⟩
        exact ⟨i, by omega, h2, h3⟩
      · rintro ⟨i, h1, h2, h3⟩
        have : i ≠ k := fun e => by rw [e, hb] at h2; cases h2
        exact ⟨i, by omega, h2, h3⟩
    · rw [if_pos rfl, Nat.testBit_or, Bool.or_eq_true, ih]
      constructor
      · rintro (⟨i, h1, h2, h3⟩ | h)
        · exact ⟨i, by omega, h2, h3⟩
        · exact ⟨k, by omega, hb, h⟩
      · rintro ⟨i, h1, h2, h3⟩
        by_cases e : i = k
        · subst e; exact .inr h3
        · exact .inl ⟨i, by omega, h2, h3⟩
theorem okAtB_above {xs : List Int} {k : Nat} (h : hasB (nth xs k) k = false) : okAtB xs k = (sub (aboveTo xs (nth xs k) xs.length) (nth xs k).toNat == 0) := by
  rw [Bool.eq_iff_iff, okAtB_iff, beq_iff_eq, sub_zero]
  constructor
  · rintro ⟨_, h2⟩ i hi
    obtain ⟨j, hj, hb, ht⟩ := (aboveTo_bit _ _ _ _).1 hi
    exact sub_zero.1 (h2 j hj hb) i ht
  · intro h2
    refine ⟨h, fun j hj hb => sub_zero.2 (fun i hi => h2 i ((aboveTo_bit _ _ _ _).2 ⟨j, hj, hb, hi⟩))⟩

theorem aboveAny_any (n : Int) (a : Option Addr) (xs : List Int) (cap : Nat) (s : Int) (w : World) (hx : Rd w a xs) (hr : RelP n xs) (h0 : 0 ≤ s) (h1 : s ≤ 9223372036854775807) :
    Calls Try.prog 61 #[.agg #[.int .i64 n, .slice a xs.length cap], .int .i64 s] w fun e w' => e = .returned (.int .i64 (aboveTo xs s xs.length)) ∧ Below w.heap.size w w' := by
  have hx1 := hx.alloc (.cells #[.int .i64 n, .slice a xs.length cap] 26)
  obtain rfl : n = (xs.length : Int) := hr.len.symm
  have hn : xs.length ≤ 10 := by have := hr.n1; omega
  go_enter Try.func61, Try.ntmps61
  go_wp2_with fail
  go_loop [5, 9] (fun s' i' => ∃ k : Nat, k ≤ xs.length ∧ i' = .int .i64 k ∧ s' = .int .i64 (aboveTo xs s k)) (fun _ i => xs.length - (intOf i).toNat)
  case atStart => exact ⟨0, Nat.zero_le _, rfl, rfl⟩
  case round =>
    obtain ⟨k, hk, rfl, rfl⟩ := hrel
    by_cases hlt : k < xs.length
    · obtain ⟨b, off, rfl, hbl, hc⟩ := hx1.cell k hlt
      obtain ⟨b', off', e', hbl', hc'⟩ := hx.cell k hlt
      simp only [Option.some.injEq, Addr.mk.injEq, and_true] at e'
      obtain ⟨rfl, rfl⟩ := e'
      have hpk := hr.pos k hlt
      have hsk := hr.small k hlt
      have hab := aboveTo_lt hr s k hk
      have hor := Lib.hid (or_i (a := (aboveTo xs s k : Nat)) (b := nth xs k) (by omega) (by omega) hpk (by omega))
      clear hab
      cases hin : hasB s k
      · go_wp2_with (go_at_call 60; refine (hasElement_any _ _ _ h0 h1 (by omega)).mono ?_; rintro e w' ⟨rfl, rfl⟩)
        go_round
        case rel => exact ⟨k + 1, by omega, by go_num, by simp [aboveTo, hin]⟩
        case measure => simp [intOf]; omega
      · go_wp2_with (go_at_call 60; refine (hasElement_any _ _ _ h0 h1 (by omega)).mono ?_; rintro e w' ⟨rfl, rfl⟩)
        go_round
        case rel => exact ⟨k + 1, by omega, by go_num, val_int (by rw [hor.out]; simp [aboveTo, hin])⟩
        case measure => simp [intOf]; omega
    · obtain rfl : k = xs.length := by omega
      go_wp2_with fail
      go_ret
      exact ⟨rfl, (by repeat (first | exact Below.refl _ _ | assumption | refine Below.alloc ?_ (by first | exact Nat.le_refl _ | (simp only [World.size_alloc, World.size_setCell, World.size_drew]; omega) | omega) _ | refine Below.setCell ?_ (by first | exact Nat.le_refl _ | (simp only [World.size_alloc, World.size_setCell, World.size_drew]; omega) | omega) _ | refine Below.drew ?_))⟩

theorem iIsOrder_any (n : Int) (a : Option Addr) (xs : List Int) (cap : Nat) (w : World) (hn : -9223372036854775808 ≤ n ∧ n ≤ 9223372036854775807) (hx : Rd w a xs) :
    Calls Try.prog 15 #[.agg #[.int .i64 n, .slice a xs.length cap]] w fun e w' => e = .returned (.bool (ordB n xs)) ∧ Below w.heap.size w w' := by
  have hx1 := hx.alloc (.cells #[.int .i64 n, .slice a xs.length cap] 26)
  have hlen := hx.len
  cases hr : relB n xs
  · have HR : Hid (ordB n xs = false) := by simp [Hid, ordB, hr]
    go_enter Try.func15, Try.ntmps15
    go_wp2_with fail
    refine (iIsRelation_any _ _ _ _ _ hn hx1).mono ?_
    rintro e w1 ⟨rfl, hb1⟩
    go_wp2_with fail
    go_ret
    exact ⟨ret_bool HR.out.symm, Below.trans (by repeat (first | exact Below.refl _ _ | assumption | refine Below.alloc ?_ (by first | exact Nat.le_refl _ | (simp only [World.size_alloc, World.size_setCell, World.size_drew]; omega) | omega) _ | refine Below.setCell ?_ (by first | exact Nat.le_refl _ | (simp only [World.size_alloc, World.size_setCell, World.size_drew]; omega) | omega) _ | refine Below.drew ?_)) (hb1.mono (by first | (simp only [World.size_alloc, World.size_setCell, World.size_drew]; omega) | omega))⟩
  · have hp := relB_p hr
    go_enter Try.func15, Try.ntmps15
    go_wp2_with fail
    refine (iIsRelation_any _ _ _ _ _ hn hx1).mono ?_
    rintro e w1 ⟨rfl, hb1⟩
    have B1 := (Box2.new w _ _ _).below hb1
    have ⟨z1, c1, d1⟩ := B1
    have bw1 : Below w.heap.size w w1 := Below.trans (by repeat (first | exact Below.refl _ _ | assumption | refine Below.alloc ?_ (by first | exact Nat.le_refl _ | (simp only [World.size_alloc, World.size_setCell, World.size_drew]; omega) | omega) _ | refine Below.setCell ?_ (by first | exact Nat.le_refl _ | (simp only [World.size_alloc, World.size_setCell, World.size_drew]; omega) | omega) _ | refine Below.drew ?_)) (hb1.mono (by first | (simp only [World.size_alloc, World.size_setCell, World.size_drew]; omega) | omega))
    have HR := Lib.hid hr
    clear hb1
    go_wp2_with fail
    clear hr
    go_loopw [11] (fun i wr => ∃ k : Nat, k ≤ xs.length ∧ i = .int .i64 k ∧ (∀ j, j < k → okAtB xs j = true) ∧ Below w1.heap.size w1 wr) (fun i _ => xs.length - (intOf i).toNat)
    case atStart => exact ⟨0, Nat.zero_le _, rfl, fun j hj => by omega, Below.refl _ _⟩
    case round =>
      obtain ⟨k, hk, rfl, hall, hb⟩ := hrel
      have ⟨zr, cr, dr⟩ := B1.below hb
      have bwr := bw1.trans (hb.mono bw1.size)
      have HA := Lib.hid hall
      clear hall c1 d1
      by_cases hlt : k < xs.length
      · obtain ⟨b, off, rfl, hbl, hc⟩ := (hx.below bwr).cell k hlt
        have hpk := hp.pos k hlt
        have hsk := hp.small k hlt
        have hsk' : nth xs k ≤ 9223372036854775807 := by omega
        cases hin : hasB (nth xs k) k
        · have hab := aboveTo_lt hp (nth xs k) xs.length (Nat.le_refl _)
          have hsub := sub_i (a := (aboveTo xs (nth xs k) xs.length : Nat)) (b := nth xs k) (by omega) (by omega) hpk (by omega)
          have hok := okAtB_above hin
          rw [Int.toNat_natCast] at hsub
          cases hok2 : okAtB xs k
          · rw [hok2] at hok
            have hne : (bits BinOp.andNot IntKind.i64 ((aboveTo xs (nth xs k) xs.length : Nat) : Int) (nth xs k) != 0) = true := by
              rw [hsub]
              simpa using hok.symm
            have HN := Lib.hid (ordB_no (n := n) hlt hok2)
            clear hok2 hok hsub hab
            go_wp2_with fail
            refine (hasElement_any _ _ _ hpk hsk' (by omega)).mono ?_
            rintro e w' ⟨rfl, rfl⟩
            go_wp2_with fail
            refine (aboveAny_any _ _ _ _ _ _ (hx.below bwr) hp hpk hsk').mono ?_
            rintro e w2 ⟨rfl, hb2⟩
            go_wp2_with fail
            go_ret
            exact ⟨ret_bool HN.out.symm, bwr.trans (hb2.mono bwr.size)⟩
          · rw [hok2] at hok
            have hne : (bits BinOp.andNot IntKind.i64 ((aboveTo xs (nth xs k) xs.length : Nat) : Int) (nth xs k) != 0) = false := by
              rw [hsub]
              simpa using hok.symm
            have HN := Lib.hid hok2
            clear hok2 hok hsub hab
            go_wp2_with fail
            refine (hasElement_any _ _ _ hpk hsk' (by omega)).mono ?_
            rintro e w' ⟨rfl, rfl⟩
            go_wp2_with fail
            refine (aboveAny_any _ _ _ _ _ _ (hx.below bwr) hp hpk hsk').mono ?_
            rintro e w2 ⟨rfl, hb2⟩
            go_wp2_with fail
            go_roundw
            case rel =>
              refine ⟨k + 1, by omega, by go_num, fun j hj => ?_, hb.trans (hb2.mono hb.size)⟩
              by_cases e : j = k
              · rw [e]; exact HN.out
              · exact HA.out j (by omega)
            case measure => simp [intOf]; omega
        · have HN := Lib.hid (ordB_no (n := n) hlt (okAtB_has hin))
          go_wp2_with fail
          refine (hasElement_any _ _ _ hpk hsk' (by omega)).mono ?_
          rintro e w' ⟨rfl, rfl⟩
          go_wp2_with fail
          go_ret
          exact ⟨ret_bool HN.out.symm, bwr⟩
      · obtain rfl : k = xs.length := by omega
        go_wp2_with fail
        go_ret
        exact ⟨ret_bool (ordB_iff.2 ⟨HR.out, HA.out⟩).symm, bwr⟩

theorem andNot_zero {c : Int} {s : Nat} (h1 : -9223372036854775808 ≤ c) (h2 : c ≤ 9223372036854775807) (hs : s < 9223372036854775808) :
    (bits .andNot .i64 c (s : Int) == 0) = (decide (0 ≤ c) && (sub c.toNat s == 0)) := by
  by_cases h : 0 ≤ c
  · rw [sub_i h (by omega) (by omega) (by omega), nat_beq0, Int.toNat_natCast]
    simp [h]
  · have e1 : (BitVec.ofInt 64 c).toNat = (c + 18446744073709551616).toNat := by
      rw [BitVec.toNat_ofInt]
      congr 1
      omega
    have m1 : (BitVec.ofInt 64 c).msb = true := by
      rw [BitVec.msb_eq_decide, e1]
      simp; omega
    have m2 : (BitVec.ofInt 64 (s : Int)).msb = false := by
      rw [BitVec.msb_eq_decide, ofInt_i64 s hs]
      simp; omega
    have m3 : (BitVec.ofInt 64 c &&& ~~~BitVec.ofInt 64 (s : Int)).msb = true := by
      rw [BitVec.msb_and, BitVec.msb_not, m1, m2]; rfl
    have hlt := (BitVec.ofInt 64 c &&& ~~~BitVec.ofInt 64 (s : Int)).isLt
    rw [BitVec.msb_eq_decide, decide_eq_true_eq] at m3
    have hw : bits .andNot .i64 c (s : Int) = IntKind.i64.wrap ((BitVec.ofInt 64 c &&& ~~~BitVec.ofInt 64 (s : Int)).toNat : Int) := rfl
    rw [hw]
    generalize (BitVec.ofInt 64 c &&& ~~~BitVec.ofInt 64 (s : Int)).toNat = v at *
    have hv : IntKind.i64.wrap (v : Int) = (v : Int) - 18446744073709551616 := by
      simp only [IntKind.wrap, IntKind.bits, IntKind.signed]
      simp
      omega
    rw [hv]
    have : ((v : Int) - 18446744073709551616 == 0) = false := by
      rw [beq_eq_false_iff_ne]; omega
    rw [this]
    simp [h]
theorem sub_le {a b : Nat} (h : sub a b = 0) : a ≤ b := by
  have h3 : a &&& b = a := by
    apply Nat.eq_of_testBit_eq
    intro m
    rw [Nat.testBit_and]
    cases e : a.testBit m
    · rfl
    · rw [sub_zero.1 h m e]; rfl
  rw [← h3]; exact Nat.and_le_right
/-- is the number told for the set s a part of it, which is not empty unless s is? -/
def cellOk (xs : List Int) (s : Nat) : Bool := decide (0 ≤ nth xs s) && (sub (nth xs s).toNat s == 0) && !(nth xs s == 0 && decide (s ≠ 0))
def tbOk (n : Int) (xs : List Int) : Bool := inB n 0 4 && decide ((xs.length : Int) = 2 ^ n.toNat) && (List.range xs.length).all (cellOk xs)
theorem tbOk_iff {n : Int} {xs : List Int} : tbOk n xs = true ↔ (0 ≤ n ∧ n ≤ 4) ∧ (xs.length : Int) = 2 ^ n.toNat ∧ ∀ s, s < xs.length → cellOk xs s = true := by
  simp [tbOk, inB_iff, and_assoc]
structure TbP (n : Int) (xs : List Int) : Prop where
  n0 : 0 ≤ n
  n1 : n ≤ 4
  len : xs.length = 2 ^ n.toNat
  small : xs.length ≤ 16
  pos : ∀ s, s < xs.length → 0 ≤ nth xs s
  part : ∀ s, s < xs.length → ∀ j, (nth xs s).toNat.testBit j = true → s.testBit j = true
  le : ∀ s, s < xs.length → (nth xs s).toNat ≤ s
  ne : ∀ s, s < xs.length → 0 < s → nth xs s ≠ 0
theorem tbOk_p {n : Int} {xs : List Int} (h : tbOk n xs = true) : TbP n xs := by
  obtain ⟨⟨h0, h1⟩, h2, h3⟩ := tbOk_iff.1 h
  have e : xs.length = 2 ^ n.toNat := by have := pow_int (n := n.toNat) (k := 0); omega
  have hp : 2 ^ n.toNat ≤ 2 ^ 4 := Nat.pow_le_pow_right (by omega) (by omega)
  have hc : ∀ s, s < xs.length → 0 ≤ nth xs s ∧ sub (nth xs s).toNat s = 0 ∧ (0 < s → nth xs s ≠ 0) := by
    intro s hs
    have := h3 s hs
    simp only [cellOk, Bool.and_eq_true, decide_eq_true_eq, beq_iff_eq, Bool.not_eq_true', Bool.and_eq_false_iff, beq_eq_false_iff_ne, decide_eq_false_iff_not] at this
    refine ⟨this.1.1, this.1.2, fun hs0 => ?_⟩
    rcases this.2 with h | h
    · exact h
    · omega
  exact ⟨h0, h1, e, by omega, fun s hs => (hc s hs).1, fun s hs => sub_zero.1 (hc s hs).2.1, fun s hs => sub_le (hc s hs).2.1, fun s hs h => (hc s hs).2.2 h⟩
theorem TbP.lt {n : Int} {xs : List Int} (h : TbP n xs) {s : Nat} (hs : s < xs.length) : (nth xs s).toNat < xs.length := by
  have := h.le s hs
  omega
theorem TbP.or {n : Int} {xs : List Int} (h : TbP n xs) {a b : Nat} (ha : a < xs.length) (hb : b < xs.length) : a ||| b < xs.length := by
  have := h.len
  rw [this] at ha hb ⊢
  exact or_lt ha hb
theorem tbOk_size {n : Int} {xs : List Int} (h : inB n 0 4 = false) : tbOk n xs = false := by simp [tbOk, h]
theorem tbOk_len {n : Int} {xs : List Int} (h : ¬ (xs.length : Int) = 2 ^ n.toNat) : tbOk n xs = false := by simp [tbOk, h]
theorem tbOk_cell {n : Int} {xs : List Int} {s : Nat} (hs : s < xs.length) (h : cellOk xs s = false) : tbOk n xs = false := by
  rw [← Bool.not_eq_true, tbOk_iff]
  rintro ⟨_, _, h3⟩
  rw [h3 s hs] at h; cases h
theorem wrap_pow4 {n : Int} (h0 : 0 ≤ n) (h1 : n ≤ 4) : wrap64 (2 ^ n.toNat) = 2 ^ n.toNat ∧ (1 : Int) ≤ 2 ^ n.toNat ∧ (2 : Int) ^ n.toNat ≤ 16 := by
  have hp : 2 ^ n.toNat ≤ 2 ^ 4 := Nat.pow_le_pow_right (by omega) (by omega)
  have h2 : 1 ≤ 2 ^ n.toNat := Nat.one_le_two_pow
  have e : ((2 ^ n.toNat : Nat) : Int) = (2 : Int) ^ n.toNat := by simp
  refine ⟨?_, by omega, by omega⟩
  generalize (2 : Int) ^ n.toNat = p at *
  exact IntWalk.wrap64_in _ ⟨by omega, by omega⟩

theorem andNot_sub {n : Int} {xs : List Int} (hp : RelP n xs) {S : Nat} (hS : S < 1024) : (bits .andNot .i64 ((chN xs (S : Int) : Nat) : Int) (S : Int) != 0) = false := by
  have h1 := chN_small hp (S : Int)
  have h2 := andNot_zero (c := ((chN xs (S : Int) : Nat) : Int)) (s := S) (by omega) (by omega) (by omega)
  have h3 : sub (chN xs (S : Int)) S = 0 := by
    apply Nat.eq_of_testBit_eq
    intro j
    rw [testBit_sub, Nat.zero_testBit]
    cases hb : (chN xs (S : Int)).testBit j
    · rfl
    · rw [((cho_bit hp).1 hb).2.1]; rfl
  rw [bne, h2, Int.toNat_natCast, h3]
  simp
set_option maxRecDepth 100000 in
set_option maxHeartbeats 4000000 in
theorem walk (a0 : Option Addr) (n0 cap0 : Nat) (a1 : Option Addr) (n1 cap1 : Nat) (w : World) (hR0 : RdB w a0 n0) (hl0 : n0 ≤ 9223372036854775807) (hR1 : RdB w a1 n1) (hl1 : n1 ≤ 9223372036854775807) :
    Calls Try.prog 6 #[.slice a0 n0 cap0, .slice a1 n1 cap1] w fun e w' => e = .returned (.bool true) ∧ Below w.heap.size w w' := by
  go_enter Try.func6, Try.ntmps6
  go_wp2_with fail
  refine (big_any _ _ _ _ _ _ _ hl0 hl1).mono ?_
  rintro e w' ⟨he, rfl⟩
  rcases he with rfl | ⟨rfl, hb0, hb1⟩
  · go_wp2_with fail
    go_ret
    exact ⟨rfl, (by repeat (first | exact Below.refl _ _ | assumption | refine Below.alloc ?_ (by first | exact Nat.le_refl _ | (simp only [World.size_alloc, World.size_setCell, World.size_drew]; omega) | omega) _ | refine Below.setCell ?_ (by first | exact Nat.le_refl _ | (simp only [World.size_alloc, World.size_setCell, World.size_drew]; omega) | omega) _ | refine Below.drew ?_))⟩
  · go_wp2_with fail
    refine (drChoice_any _ _ _ _ hR0 hb0).mono ?_
    rintro e w1 ⟨n, a, cap, xs, s, rfl, ho, hl, hn0, hn1, hs0, hs1, hx, hb⟩
    have ba : Below w1.heap.size w1 (w1.alloc (.cells #[.int .i64 n, .slice a xs.length cap] 26)) := (by repeat (first | exact Below.refl _ _ | assumption | refine Below.alloc ?_ (by first | exact Nat.le_refl _ | (simp only [World.size_alloc, World.size_setCell, World.size_drew]; omega) | omega) _ | refine Below.setCell ?_ (by first | exact Nat.le_refl _ | (simp only [World.size_alloc, World.size_setCell, World.size_drew]; omega) | omega) _ | refine Below.drew ?_))
    have hO2 := Box2.new w1 (.int .i64 n) (.slice a xs.length cap) 26
    have hR2 := ho.rd.below ba
    have hM2 := (hR1.below hb).below ba
    have hB2 := hb.trans (ba.mono hb.size)
    have hnn : -9223372036854775808 ≤ n ∧ n ≤ 9223372036854775807 := by omega
    have hss : -9223372036854775808 ≤ s ∧ s ≤ 9223372036854775807 := by omega
    obtain ⟨w2, hw2⟩ : ∃ x : World, x = w1.alloc (.cells #[.int .i64 n, .slice a xs.length cap] 26) := ⟨_, rfl⟩
    rw [← hw2] at hO2 hR2 hM2 hB2
    have HW2 := Lib.hid hw2
    have HO2 := Lib.hid hO2
    have HR2 := Lib.hid hR2
    have HM2 := Lib.hid hM2
    have HB2 := Lib.hid hB2
    have ⟨zO2, cO2, dO2⟩ := hO2
    -- the calls, from any world behind w2
    have HC : Hid (∀ W, Below w2.heap.size w2 W → ∀ t : Int, -9223372036854775808 ≤ t ∧ t ≤ 9223372036854775807 → Calls Try.prog 31 #[.agg #[.int .i64 n, .slice a xs.length cap], .int .i64 t] W fun e w' => e = .returned (.tuple #[.int .i64 (choV n xs t), .bool (choOk n xs t)]) ∧ Below W.heap.size W w') := fun W hW t ht => iChoiceOf_any n a xs cap t W hnn (HR2.out.below hW) ht
    have HD : Hid (∀ W, Below w2.heap.size w2 W → Calls Try.prog 32 #[.agg #[.int .i64 n, .slice a xs.length cap], .int .i64 s] W fun e w' => e = .returned (.tuple #[.int .i64 (choV n xs s), .bool (choOk n xs s)]) ∧ Below W.heap.size W w') := fun W hW => sChoiceOf_any n a xs cap s W hnn (HR2.out.below hW) hss
    have HA1 : Hid (∀ W, Below w2.heap.size w2 W → Calls Try.prog 33 #[.agg #[.int .i64 n, .slice a xs.length cap]] W fun e w' => e = .returned (.tuple #[.bool (acyB n xs), .bool (relB n xs)]) ∧ Below W.heap.size W w') := fun W hW => iIsAcyclic_any n a xs cap W hnn (HR2.out.below hW)
    have HA2 : Hid (∀ W, Below w2.heap.size w2 W → Calls Try.prog 34 #[.agg #[.int .i64 n, .slice a xs.length cap]] W fun e w' => e = .returned (.tuple #[.bool (acyB n xs), .bool (relB n xs)]) ∧ Below W.heap.size W w') := fun W hW => sIsAcyclic_any n a xs cap W hnn (HR2.out.below hW)
    have HRL : Hid (∀ W, Below w2.heap.size w2 W → Calls Try.prog 35 #[.agg #[.int .i64 n, .slice a xs.length cap]] W fun e w' => e = .returned (.bool (relB n xs)) ∧ Below W.heap.size W w') := fun W hW => iIsRelation_any n a xs cap W hnn (HR2.out.below hW)
    have HOR : Hid (∀ W, Below w2.heap.size w2 W → Calls Try.prog 15 #[.agg #[.int .i64 n, .slice a xs.length cap]] W fun e w' => e = .returned (.bool (ordB n xs)) ∧ Below W.heap.size W w') := fun W hW => iIsOrder_any n a xs cap W hnn (HR2.out.below hW)
    clear hw2 hO2 hR2 hM2 hB2 ba ho hb hx hR0 hR1 hb0 hb1
    go_wp2_with fail
    rw [← HW2.out]
    refine (HC.out w2 (Below.refl _ _) s hss).mono ?_
    rintro e w3 ⟨rfl, hb3⟩
    have HT3 := Lib.hid hb3
    have ⟨zO3, cO3, dO3⟩ := HO2.out.below hb3
    clear hb3
    go_wp2_with fail
    refine (HD.out w3 HT3.out).mono ?_
    rintro e w4 ⟨rfl, hb4⟩
    have HT4 := Lib.hid (HT3.out.trans (hb4.mono HT3.out.size))
    have ⟨zO4, cO4, dO4⟩ := HO2.out.below HT4.out
    have hbb : (choOk n xs s != choOk n xs s) = false := by simp
    have hcc : (choV n xs s != choV n xs s) = false := by simp
    clear hb4 cO3 dO3 zO3
    go_wp2_with fail
    refine (HA1.out w4 HT4.out).mono ?_
    rintro e w5 ⟨rfl, hb5⟩
    have HT5 := Lib.hid (HT4.out.trans (hb5.mono HT4.out.size))
    have ⟨zO5, cO5, dO5⟩ := HO2.out.below HT5.out
    clear hb5 cO4 dO4 zO4
    go_wp2_with fail
    refine (HA2.out w5 HT5.out).mono ?_
    rintro e w6 ⟨rfl, hb6⟩
    have HT6 := Lib.hid (HT5.out.trans (hb6.mono HT5.out.size))
    have ⟨zO6, cO6, dO6⟩ := HO2.out.below HT6.out
    have hrr : (relB n xs != relB n xs) = false := by simp
    have haa : (acyB n xs != acyB n xs) = false := by simp
    clear hb6 cO5 dO5 zO5
    go_wp2_with fail
    refine (HRL.out w6 HT6.out).mono ?_
    rintro e w7 ⟨rfl, hb7⟩
    have HT7 := Lib.hid (HT6.out.trans (hb7.mono HT6.out.size))
    have ⟨zO7, cO7, dO7⟩ := HO2.out.below HT7.out
    clear hb7 cO6 dO6 zO6
    go_wp2_with fail
    refine (HOR.out w7 HT7.out).mono ?_
    rintro e w8 ⟨rfl, hb8⟩
    have HT8 := Lib.hid (HT7.out.trans (hb8.mono HT7.out.size))
    have ⟨zO8, cO8, dO8⟩ := HO2.out.below HT8.out
    have HBW : Hid (Below w.heap.size w w8) := HB2.out.trans (HT8.out.mono HB2.out.size)
    clear hb8 cO7 dO7 zO7
    cases hck : choOk n xs s
    · cases hob : ordB n xs
      · go_wp2_with fail
        go_ret
        exact ⟨rfl, HBW.out⟩
      · have hA : acyB n xs = true := by rw [acyB, (ordB_iff.1 hob).1, ord_acy hob]; rfl
        rw [hA]
        go_wp2_with fail
        go_ret
        exact ⟨rfl, HBW.out⟩
    · have hr : relB n xs = true := by simp only [choOk, Bool.and_eq_true] at hck; exact hck.1
      have hsr : inB s 0 (2 ^ n.toNat - 1) = true := by simp only [choOk, Bool.and_eq_true] at hck; exact hck.2
      have hp := relB_p hr
      have hsb := inB_iff.1 hsr
      obtain rfl : n = (xs.length : Int) := hp.len.symm
      have hnl : (xs.length : Int).toNat = xs.length := Int.toNat_natCast _
      rw [hnl] at hsb
      have h2n := pow10 (n := xs.length) hl
      obtain ⟨S, rfl⟩ : ∃ S : Nat, s = (S : Int) := ⟨s.toNat, by omega⟩
      have hS2 : S < 2 ^ xs.length := by
        have e : ((2 ^ xs.length : Nat) : Int) = (2 : Int) ^ xs.length := by simp
        omega
      have hS : S < 1024 := by
        have e : ((2 ^ xs.length : Nat) : Int) = (2 : Int) ^ xs.length := by simp
        omega
      have hcv : choV (xs.length : Int) xs (S : Int) = ((chN xs (S : Int) : Nat) : Int) := by rw [choV, hck, if_pos rfl]
      have han := andNot_sub hp hS
      have hcs := chN_small hp (S : Int)
      have hce : acB xs = true → 0 < S → chN xs (S : Int) ≠ 0 := fun h h0 => (acy_eq hp).1 h S h0 hS2
      have hay : acyB (xs.length : Int) xs = acB xs := by rw [acyB, hr]; rfl
      rw [hcv, hay]
      have HCP := Lib.hid (fun (T : Nat) (hT : T < 2 ^ xs.length) (ho : ordB (xs.length : Int) xs = true) => cho_path ho hS2 hT)
      have HOK : Hid (∀ T : Nat, T < 2 ^ xs.length → choOk (xs.length : Int) xs (T : Int) = true ∧ choV (xs.length : Int) xs (T : Int) = ((chN xs (T : Int) : Nat) : Int)) := fun T hT => by
        have e : ((2 ^ xs.length : Nat) : Int) = (2 : Int) ^ xs.length := by simp
        have h1 : choOk (xs.length : Int) xs (T : Int) = true := by
          have h5 : (T : Int) < (2 : Int) ^ xs.length := by rw [← e]; exact Int.ofNat_lt.2 hT
          rw [choOk, hr, hnl]
          rw [Bool.true_and]
          exact inB_iff.2 ⟨Int.natCast_nonneg _, Int.le_sub_one_of_lt h5⟩
        exact ⟨h1, by rw [choV, h1, if_pos rfl]⟩
      have HSP : ((2 ^ xs.length : Nat) : Int) = (2 : Int) ^ xs.length := by simp
      have HCT : Hid (∀ W, Below w2.heap.size w2 W → ∀ T : Nat, T < 2 ^ xs.length → Calls Try.prog 31 #[.agg #[.int .i64 (xs.length : Int), .slice a xs.length cap], .int .i64 (T : Int)] W fun e w' => e = .returned (.tuple #[.int .i64 ((chN xs (T : Int) : Nat) : Int), .bool true]) ∧ Below W.heap.size W w') := fun W hW T hT => by
        have h5 : (T : Int) < (2 : Int) ^ xs.length := by rw [← HSP]; exact Int.ofNat_lt.2 hT
        have h6 := HC.out W hW (T : Int) ⟨by omega, by omega⟩
        rw [(HOK.out T hT).1, (HOK.out T hT).2] at h6
        exact h6
      have HOA := Lib.hid (fun (h : ordB (xs.length : Int) xs = true) => ord_acy h)
      have HLT := Lib.hid (chN_lt xs (S : Int))
      obtain ⟨C, hC⟩ : ∃ C, C = chN xs (S : Int) := ⟨_, rfl⟩
      have HCC := Lib.hid hC
      rw [← hC] at han hcs hce HLT ⊢
      obtain ⟨A, hA⟩ : ∃ A, A = acB xs := ⟨_, rfl⟩
      have HAA := Lib.hid hA
      rw [← hA] at hce ⊢
      have HCE := Lib.hid hce
      have HRR := Lib.hid hr
      have HPP := Lib.hid hp
      have HNL := Lib.hid hnl
      have HS2 := Lib.hid hS2
      clear HSP hC hA hce hr hsr hp hsb hnl h2n hcv hay hck
      have hc0 : A = true → ((S : Int) != 0) = true → ((C : Int) == 0) = false := fun h1 h2 => by
        have h3 : S ≠ 0 := by intro e; subst e; simp at h2
        have h4 := HCE.out h1 (by omega)
        have : ¬ ((C : Int) = 0) := by omega
        simpa using this
      have HC0 := Lib.hid hc0
      clear hc0
      cases hob : ordB (xs.length : Int) xs
      · have HOR2 := HOR
        rw [hob] at HOR2
        clear hob
        cases hA2 : A
        · go_wp2_with fail
          refine (HOR2.out _ HT8.out).mono ?_
          rintro e w9 ⟨rfl, hb9⟩
          have bw9 := HBW.out.trans (hb9.mono HBW.out.size)
          clear hb9
          go_wp2_with fail
          go_ret
          exact ⟨rfl, bw9⟩
        · cases hz : ((S : Int) != 0)
          · go_wp2_with fail
            refine (HOR2.out _ HT8.out).mono ?_
            rintro e w9 ⟨rfl, hb9⟩
            have bw9 := HBW.out.trans (hb9.mono HBW.out.size)
            clear hb9
            go_wp2_with fail
            go_ret
            exact ⟨rfl, bw9⟩
          · have hcz := HC0.out hA2 hz
            go_wp2_with fail
            refine (HOR2.out _ HT8.out).mono ?_
            rintro e w9 ⟨rfl, hb9⟩
            have bw9 := HBW.out.trans (hb9.mono HBW.out.size)
            clear hb9
            go_wp2_with fail
            go_ret
            exact ⟨rfl, bw9⟩
      · have HOR2 := HOR
        rw [hob] at HOR2
        have hA2 : A = true := by rw [HAA.out]; exact HOA.out hob
        have HOB := Lib.hid hob
        clear hob
        cases hz : ((S : Int) != 0)
        · rw [hA2]
          go_wp2_with fail
          refine (HOR2.out _ HT8.out).mono ?_
          rintro e w9 ⟨rfl, hb9⟩
          have HT9 := Lib.hid (HT8.out.trans (hb9.mono HT8.out.size))
          have HO9 := Lib.hid (HO2.out.below HT9.out)
          have ⟨zO9, cO9, dO9⟩ := HO9.out
          have HM9 := Lib.hid (HM2.out.below HT9.out)
          have hp2 := pow_small (q := xs.length) hl
          have hne : ((2 : Int) ^ xs.length) ≠ 0 := by omega
          clear hb9 cO8 dO8 zO8
          go_wp2_with fail
          go_region_held3 (fun w' => w'.cell? ⟨w1.heap.size, 0, none⟩ = some (.int .i64 (xs.length : Int)) ∧ w'.cell? ⟨w1.heap.size, 1, none⟩ = some (.slice a xs.length cap))
            (first | exact ⟨QO.2.1, QO.2.2⟩ | go_keep)
            (first | (go_at_call 36; refine (vNumber_any a1 n1 cap1 _ (HM9.out.below (Joins.below_draws _ _ _)) hl1).mono ?_; rintro e wa ⟨r, rfl, r0, r1, hba⟩; have hta : Below w9.heap.size w9 wa := (Joins.below_draws _ _ _).trans hba; have QO := HO9.out.below hta; clear hba))
          obtain ⟨T, hT, hT2⟩ : ∃ T : Nat, r.tmod (2 ^ xs.length) = (T : Int) ∧ T < 2 ^ xs.length := by
            have e : ((2 ^ xs.length : Nat) : Int) = (2 : Int) ^ xs.length := by simp
            have h1 := Int.tmod_nonneg (2 ^ xs.length) r0
            have h2 := Int.tmod_lt_of_pos r (show (0 : Int) < 2 ^ xs.length by omega)
            exact ⟨(r.tmod (2 ^ xs.length)).toNat, by omega, by omega⟩
          rw [hT]
          have HTa := Lib.hid (HT9.out.trans (hta.mono HT9.out.size))
          have ⟨zOa, cOa, dOa⟩ := QO
          have HT2 := Lib.hid hT2
          have hTs : T < 1024 := by
            have e : ((2 ^ xs.length : Nat) : Int) = (2 : Int) ^ xs.length := by simp
            omega
          obtain ⟨D, hD⟩ : ∃ D, D = chN xs (T : Int) := ⟨_, rfl⟩
          have HDD := Lib.hid hD
          obtain ⟨E1, hE1⟩ : ∃ E1, E1 = chN xs ((S ||| T : Nat) : Int) := ⟨_, rfl⟩
          obtain ⟨E2, hE2⟩ : ∃ E2, E2 = chN xs ((C ||| D : Nat) : Int) := ⟨_, rfl⟩
          have HE1 := Lib.hid hE1
          have HE2 := Lib.hid hE2
          have hee : ((E1 : Int) == (E2 : Int)) = true := by
            have h3 : E1 = E2 := by rw [hE1, hE2, HCC.out, HDD.out]; exact HCP.out T hT2 HOB.out
            rw [h3]; simp
          have HDL : Hid (D < 2 ^ xs.length) := Lib.hid (by rw [HDD.out]; exact chN_lt _ _)
          have hDs : D < 1024 := by
            have e : ((2 ^ xs.length : Nat) : Int) = (2 : Int) ^ xs.length := by simp
            have := HDL.out
            omega
          have o1 := or_nat S T (by omega) (by omega)
          have o2 := or_nat C D (by omega) (by omega)
          have HO1 := Lib.hid o1
          have HO2' := Lib.hid o2
          have HSTL : Hid (S ||| T < 2 ^ xs.length) := Lib.hid (Nat.or_lt_two_pow HS2.out hT2)
          have HCDL : Hid (C ||| D < 2 ^ xs.length) := Lib.hid (Nat.or_lt_two_pow HLT.out HDL.out)
          clear hD hE1 hE2 o1 o2 hT hT2 zO9 cO9 dO9 hta QO
          go_wp2_with fail
          refine (HCT.out _ HTa.out T HT2.out).mono ?_
          rw [← HDD.out]
          rintro e wb ⟨rfl, hbb⟩
          have HTb := Lib.hid (HTa.out.trans (hbb.mono HTa.out.size))
          have ⟨zOb, cOb, dOb⟩ := HO2.out.below HTb.out
          clear hbb zOa cOa dOa
          go_wp2_with fail
          rw [HO1.out]
          refine (HCT.out _ HTb.out _ HSTL.out).mono ?_
          rw [← HE1.out]
          rintro e wc ⟨rfl, hbc⟩
          have HTc := Lib.hid (HTb.out.trans (hbc.mono HTb.out.size))
          have ⟨zOc, cOc, dOc⟩ := HO2.out.below HTc.out
          clear hbc zOb cOb dOb
          go_wp2_with fail
          rw [HO2'.out]
          refine (HCT.out _ HTc.out _ HCDL.out).mono ?_
          rw [← HE2.out]
          rintro e wd ⟨rfl, hbd⟩
          have HTd := Lib.hid (HTc.out.trans (hbd.mono HTc.out.size))
          clear hbd zOc cOc dOc
          go_wp2_with fail
          go_ret
          exact ⟨rfl, HB2.out.trans (HTd.out.mono HB2.out.size)⟩
        · have hcz := HC0.out hA2 hz
          rw [hA2]
          go_wp2_with fail
          refine (HOR2.out _ HT8.out).mono ?_
          rintro e w9 ⟨rfl, hb9⟩
          have HT9 := Lib.hid (HT8.out.trans (hb9.mono HT8.out.size))
          have HO9 := Lib.hid (HO2.out.below HT9.out)
          have ⟨zO9, cO9, dO9⟩ := HO9.out
          have HM9 := Lib.hid (HM2.out.below HT9.out)
          have hp2 := pow_small (q := xs.length) hl
          have hne : ((2 : Int) ^ xs.length) ≠ 0 := by omega
          clear hb9 cO8 dO8 zO8
          go_wp2_with fail
          go_region_held3 (fun w' => w'.cell? ⟨w1.heap.size, 0, none⟩ = some (.int .i64 (xs.length : Int)) ∧ w'.cell? ⟨w1.heap.size, 1, none⟩ = some (.slice a xs.length cap))
            (first | exact ⟨QO.2.1, QO.2.2⟩ | go_keep)
            (first | (go_at_call 36; refine (vNumber_any a1 n1 cap1 _ (HM9.out.below (Joins.below_draws _ _ _)) hl1).mono ?_; rintro e wa ⟨r, rfl, r0, r1, hba⟩; have hta : Below w9.heap.size w9 wa := (Joins.below_draws _ _ _).trans hba; have QO := HO9.out.below hta; clear hba))
          obtain ⟨T, hT, hT2⟩ : ∃ T : Nat, r.tmod (2 ^ xs.length) = (T : Int) ∧ T < 2 ^ xs.length := by
            have e : ((2 ^ xs.length : Nat) : Int) = (2 : Int) ^ xs.length := by simp
            have h1 := Int.tmod_nonneg (2 ^ xs.length) r0
            have h2 := Int.tmod_lt_of_pos r (show (0 : Int) < 2 ^ xs.length by omega)
            exact ⟨(r.tmod (2 ^ xs.length)).toNat, by omega, by omega⟩
          rw [hT]
          have HTa := Lib.hid (HT9.out.trans (hta.mono HT9.out.size))
          have ⟨zOa, cOa, dOa⟩ := QO
          have HT2 := Lib.hid hT2
          have hTs : T < 1024 := by
            have e : ((2 ^ xs.length : Nat) : Int) = (2 : Int) ^ xs.length := by simp
            omega
          obtain ⟨D, hD⟩ : ∃ D, D = chN xs (T : Int) := ⟨_, rfl⟩
          have HDD := Lib.hid hD
          obtain ⟨E1, hE1⟩ : ∃ E1, E1 = chN xs ((S ||| T : Nat) : Int) := ⟨_, rfl⟩
          obtain ⟨E2, hE2⟩ : ∃ E2, E2 = chN xs ((C ||| D : Nat) : Int) := ⟨_, rfl⟩
          have HE1 := Lib.hid hE1
          have HE2 := Lib.hid hE2
          have hee : ((E1 : Int) == (E2 : Int)) = true := by
            have h3 : E1 = E2 := by rw [hE1, hE2, HCC.out, HDD.out]; exact HCP.out T hT2 HOB.out
            rw [h3]; simp
          have HDL : Hid (D < 2 ^ xs.length) := Lib.hid (by rw [HDD.out]; exact chN_lt _ _)
          have hDs : D < 1024 := by
            have e : ((2 ^ xs.length : Nat) : Int) = (2 : Int) ^ xs.length := by simp
            have := HDL.out
            omega
          have o1 := or_nat S T (by omega) (by omega)
          have o2 := or_nat C D (by omega) (by omega)
          have HO1 := Lib.hid o1
          have HO2' := Lib.hid o2
          have HSTL : Hid (S ||| T < 2 ^ xs.length) := Lib.hid (Nat.or_lt_two_pow HS2.out hT2)
          have HCDL : Hid (C ||| D < 2 ^ xs.length) := Lib.hid (Nat.or_lt_two_pow HLT.out HDL.out)
          clear hD hE1 hE2 o1 o2 hT hT2 zO9 cO9 dO9 hta QO
          go_wp2_with fail
          refine (HCT.out _ HTa.out T HT2.out).mono ?_
          rw [← HDD.out]
          rintro e wb ⟨rfl, hbb⟩
          have HTb := Lib.hid (HTa.out.trans (hbb.mono HTa.out.size))
          have ⟨zOb, cOb, dOb⟩ := HO2.out.below HTb.out
          clear hbb zOa cOa dOa
          go_wp2_with fail
          rw [HO1.out]
          refine (HCT.out _ HTb.out _ HSTL.out).mono ?_
          rw [← HE1.out]
          rintro e wc ⟨rfl, hbc⟩
          have HTc := Lib.hid (HTb.out.trans (hbc.mono HTb.out.size))
          have ⟨zOc, cOc, dOc⟩ := HO2.out.below HTc.out
          clear hbc zOb cOb dOb
          go_wp2_with fail
          rw [HO2'.out]
          refine (HCT.out _ HTc.out _ HCDL.out).mono ?_
          rw [← HE2.out]
          rintro e wd ⟨rfl, hbd⟩
          have HTd := Lib.hid (HTc.out.trans (hbd.mono HTc.out.size))
          clear hbd zOc cOc dOc
          go_wp2_with fail
          go_ret
          exact ⟨rfl, HB2.out.trans (HTd.out.mono HB2.out.size)⟩

theorem rd_of_trod {H : Type} {enc : TypeId × Value → H} {W : World} {fuel : Nat} {c : Value} {y : DataW H × List MemPlace}
    (h : DataW.trod enc Try.prog W 0 (fun _ => true) true fuel 24 [c] = some y) : ∃ (a : Option Addr) (xs : List Int) (cap : Nat), c = .slice a xs.length cap ∧ Rd W a xs ∧ ∀ k, k < xs.length → (Lit.int .i64 (nth xs k)).wf = true := by
  rcases Go.ChangeShapes.open_ints Try.underlying24 Try.underlying3 (by kernel_rfl) h with ⟨hcs, _⟩ | ⟨x, len, cap, zs, hcs, _, hl, hm, hz, _, hcell, hwf⟩
  · simp only [List.cons.injEq, and_true] at hcs
    exact ⟨none, [], 0, hcs, ⟨by simp, fun k hk => by simp at hk⟩, fun k hk => by simp at hk⟩
  · simp only [List.cons.injEq, and_true] at hcs
    simp only [if_true] at hz
    have hlen : (zs.take len).length = len := by rw [List.length_take]; omega
    have hn : ∀ k, k < len → nth (zs.take len) k = zs.getD k 0 := by
      intro k hk
      simp only [nth, List.getD_eq_getElem?_getD, List.getElem?_take, hk, if_true]
    refine ⟨some x, zs.take len, cap, by rw [hlen]; exact hcs, ⟨by rw [hlen]; unfold maxLen at hm; omega, fun k hk => ?_⟩, fun k hk => ?_⟩
    · rw [hlen] at hk
      obtain ⟨b, off, sp⟩ := x
      have h0 := hcell 0 (by omega)
      have hsp : sp = none := by simpa [Addr.add] using World.cell?_spot h0
      subst hsp
      have hk' := hcell k (by omega)
      rw [Addr.add_lit] at hk'
      exact ⟨b, off, rfl, World.block_lt_of_cell? _ _ h0, by rw [hk', hn k hk]⟩
    · rw [hlen] at hk
      rw [hn k hk]
      have hk2 : k < zs.length := by omega
      exact hwf _ (by rw [List.getD_eq_getElem?_getD, List.getElem?_eq_getElem hk2]; exact List.getElem_mem hk2)

theorem own : ownKnob Try.prog.godebug = none := by kernel_rfl
theorem laidOut : laidOutB Try.prog = true := by kernel_rfl
theorem wf_bd {n : Int} (h : (Lit.int .i64 n).wf = true) : -9223372036854775808 ≤ n ∧ n ≤ 9223372036854775807 := by
  simp [Lit.wf, IntKind.min, IntKind.max, IntKind.bits, IntKind.signed] at h
  omega

theorem wf_byte {n : Int} (h : (Lit.int .u8 n).wf = true) : 0 ≤ n ∧ n ≤ 255 := by
  simp [Lit.wf, IntKind.min, IntKind.max, IntKind.bits, IntKind.signed] at h
  omega
/-- a slice of bytes that was handed over -/
theorem rdB_of_trod {H : Type} {enc : TypeId × Value → H} {W : World} {fuel : Nat} {c : Value} {y : DataW H × List MemPlace}
    (h : DataW.trod enc Try.prog W 0 (fun _ => true) true fuel 22 [c] = some y) : ∃ (a : Option Addr) (n cap : Nat), c = .slice a n cap ∧ RdB W a n ∧ n ≤ 9223372036854775807 := by
  rcases Go.ChangeShapes.open_ints Try.underlying22 Try.underlying5 (by kernel_rfl) h with ⟨hcs, _⟩ | ⟨x, len, cap, zs, hcs, _, hl, hm, hz, _, hcell, hwf⟩
  · simp only [List.cons.injEq, and_true] at hcs
    exact ⟨none, 0, 0, hcs, ⟨fun k hk => by omega⟩, by omega⟩
  · simp only [List.cons.injEq, and_true] at hcs
    simp only [if_true] at hz
    refine ⟨some x, len, cap, hcs, ⟨fun k hk => ?_⟩, by unfold maxLen at hm; omega⟩
    obtain ⟨b, off, sp⟩ := x
    have h0 := hcell 0 (by omega)
    have hsp : sp = none := by simpa [Addr.add] using World.cell?_spot h0
    subst hsp
    have hk' := hcell k (by omega)
    rw [Addr.add_lit] at hk'
    have hk2 : k < zs.length := by omega
    have hw := hwf _ (show zs.getD k 0 ∈ zs by rw [List.getD_eq_getElem?_getD, List.getElem?_eq_getElem hk2]; exact List.getElem_mem hk2)
    refine ⟨b, off, rfl, World.block_lt_of_cell? _ _ h0, zs.getD k 0, hk', ?_⟩
    exact wf_byte hw

open Go.ChangeShapes Go.WideShapes Go.ChangeAt Go.RowKit in
set_option maxRecDepth 100000 in
theorem lifted (os : Os) (started : os.Started) (H : Type) (enc : TypeId × Value → H) :
    ReturnsInHanded {} Try.checked os 6 .any (Rows.fnChoicesOfOrdersSpec.pre6 enc Try.prog Try.f6 Rows.fnChoicesOfOrdersRow.domain false) (Rows.fnChoicesOfOrdersSpec.post enc Try.prog Try.f6 false true false false) := by
  refine returnsInHanded_of_change (C := Try.checked) own started (by kernel_rfl) Try.func6
    (ChangeSpec.witness6 (enc := enc) (C := Try.checked) false ⟨#[], #[.slice none 0 0, .slice none 0 0], []⟩ 8 (by kernel_rfl) (by kernel_rfl) (by kernel_rfl) (by kernel_rfl)) ?_
  intro W base args ds gs before hval0 hW hcnd _
  have hval : ∀ (j : Nat) t v, Try.f6.params[j]? = some t → args[j]? = some v → Value.okWide Try.prog W .any base t v := hval0
  have hW' := hW
  obtain ⟨p, q, hA0, hV, rfl, hfz, hnd⟩ := hW
  have hA : DataW.TrodAll enc Try.prog W 0 (fun _ => true) true Try.f6.params.toList args.toList ds p := hA0
  rw [Try.params6] at hA hval
  obtain ⟨v0, vs0, d0, ds0, p0, q0, hargs, rfl, rfl, h0, r0⟩ := trodAll_cons hA
  obtain ⟨v1, vs1, d1, ds1, p1, q1, rfl, rfl, rfl, h1, r1⟩ := trodAll_cons r0
  obtain ⟨rfl, rfl, rfl⟩ := trodAll_nil r1
  obtain rfl : args = #[v0, v1] := by cases args; simp_all
  obtain ⟨rfl, rfl⟩ := trodVars_none hV
  have lt0 : ∀ x ∈ p0, x.block < W.heap.size := by obtain ⟨m, hm⟩ := h0; exact DataW.trod_lt m _ _ _ hm
  have lt1 : ∀ x ∈ p1, x.block < W.heap.size := by obtain ⟨m, hm⟩ := h1; exact DataW.trod_lt m _ _ _ hm
  obtain ⟨a0, len0, cap0, rfl⟩ := okWide_slice Try.underlying22 (hval 0 22 v0 rfl rfl)
  obtain ⟨a0, n0, cap0, e0, rd0, ln0⟩ := (by obtain ⟨fu, hf⟩ := h0; simp only [Value.cells] at hf; exact rdB_of_trod hf : ∃ (a : Option Addr) (n cap : Nat), Value.slice a0 len0 cap0 = .slice a n cap ∧ RdB W a n ∧ n ≤ 9223372036854775807)
  simp only [Value.slice.injEq] at e0
  obtain ⟨rfl, rfl, rfl⟩ := e0
  obtain ⟨a1, len1, cap1, rfl⟩ := okWide_slice Try.underlying22 (hval 1 22 v1 rfl rfl)
  obtain ⟨a1, n1, cap1, e1, rd1, ln1⟩ := (by obtain ⟨fu, hf⟩ := h1; simp only [Value.cells] at hf; exact rdB_of_trod hf : ∃ (a : Option Addr) (n cap : Nat), Value.slice a1 len1 cap1 = .slice a n cap ∧ RdB W a n ∧ n ≤ 9223372036854775807)
  simp only [Value.slice.injEq] at e1
  obtain ⟨rfl, rfl, rfl⟩ := e1
  clear hA0 hval0
  refine (walk a0 len0 cap0 a1 len1 cap1 W rd0 ln0 rd1 ln1).mono fun e W' ⟨he, bel⟩ => ?_
  subst he
  exact ⟨_, rfl, _, _, _, [], _, [], hW', trodAll_mk1 (shut_bool Try.underlying4 _), (trodAll_cons_mk (Below.trod laidOut (by kernel_rfl) (of_decide_eq_true (by kernel_rfl)) h0 bel lt0) (trodAll_cons_mk (Below.trod laidOut (by kernel_rfl) (of_decide_eq_true (by kernel_rfl)) h1 bel lt1) trodAll_mk0)), rfl, bel.frame _, fun h => by cases h⟩
theorem proved : Rows.FnChoicesOfOrdersSaid :=
  OpenClaim.holds_of_wide 6 Try.f6 rfl rfl rfl rfl rfl rfl rfl ⟨rfl, rfl, rfl, rfl, rfl⟩ rfl rfl rfl rfl rfl (by kernel_rfl) Try.func6 (by kernel_rfl)
    (of_decide_eq_true (by kernel_rfl)) (by unfold Func.isWrapper; first | (rw [if_pos (by decide +kernel)]; kernel_rfl) | (rw [if_neg (by decide +kernel)]; exact ⟨rfl, rfl⟩))
    (fun os started H enc _ => lifted os started H enc)

end Go.Proofs.Ytckblladklhlpaa.choicesOfOrders
