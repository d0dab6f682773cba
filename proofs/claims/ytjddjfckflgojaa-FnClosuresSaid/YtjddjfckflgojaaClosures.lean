/- PROVED: the law FnClosures returns true for every input, and each of its arguments reads afterwards as before. No conditions. -/
import Derived.Test.YtjddjfckflgojaaRows
import Derived.WalkKit
import Derived.WalkSpells
import Derived.WalkLawsBesides
import Derived.Deep.QuietTactic
import Derived.BigQuiet
import Derived.ProofKit
import Derived.OpenShut
import Derived.ShutString
import Derived.ChangeOld
import Derived.Below
import Derived.Lib.SmallJoins
import Derived.Lib.Hide
import Derived.Maps.AppendAt
import Derived.Deep.AppendLies
import Derived.Deep.RegionHeld3
import Derived.Deep.DeepCutAuto
import Derived.StillTail
import Derived.Lib.SliceRun
import Derived.Test.YtjddjfckflgojaaClosuresP1
namespace Go.Proofs.Ytjddjfckflgojaa.closures
open Go Go.RowKit
set_option linter.unusedVariables false
set_option linter.unusedSimpArgs false
set_option maxHeartbeats 400000
theorem sliceClone_any (a : Option Addr) (xs : List Int) (cap : Nat) (w : World) (hx : Rd w a xs) (hn : xs.length ≤ 1048576) :
    Calls Try.prog 67 #[.slice a xs.length cap] w fun e w' => ∃ a' cap', e = .returned (.slice a' xs.length cap') ∧ OwnI w' w.heap.size (.slice a' xs.length cap') xs ∧ Below w.heap.size w w' := by
  obtain ⟨i0, hi, hz0, hz1, hz2⟩ := info_parts infoInt
  have hown : (w.alloc (.cells #[] 3)).ownsRow w.heap.size 3 1 (.slice (some ⟨w.heap.size, 0, none⟩) 0 0) 0 [] := World.ownsRow_lit w #[] 0 (Nat.le_refl _) (by simp [maxLen]) (by simp)
  cases a with
  | none =>
    have h0 : xs = [] := by
      rcases xs with _ | ⟨x, t⟩
      · rfl
      · obtain ⟨b, off, e, _⟩ := hx.cell 0 (by simp)
        cases e
    subst h0
    have hq := Lib.run_eql_slice_nil (P := Try.prog) w 24 3 none 0 cap 0 0 Try.underlying24
    simp only [Option.isNone_none] at hq
    go_enter Try.func67, Try.ntmps67
    go_wp2_with fail
    go_ret
    exact ⟨none, 0, rfl, OwnI.nil _ _, Below.refl _ _⟩
  | some ad =>
    have hx1 := hx.alloc (.cells #[] 3)
    have hq := Lib.run_eql_slice_nil (P := Try.prog) w 24 3 (some ad) xs.length cap 0 0 Try.underlying24
    simp only [Option.isNone_some] at hq
    go_enter Try.func67, Try.ntmps67
    go_wp2_with (at_builtin; refine wpList_append_own _ rfl _ _ 24 rfl w.heap.size 3 i0 (.int .i64 0) 1 8 Try.underlying24 hi hz0 hz1 hz2 rfl (by decide) _ 0 [] rfl hown ad xs.length cap (xs.map (Value.int .i64)) rfl (by simp) ?c1 ?c2 ?c3 ?c4 ?c5 ?_)
    case c1 => exact rd_news hx1
    case c2 => exact ints_one xs
    case c3 => unfold maxLen; omega
    case c4 => omega
    case c5 => simp
    · intro v' w1 hown' hgrow _
      try simp only [Nat.zero_add, List.nil_append] at hown'
      have hb : Below w.heap.size w w1 := ((Below.refl _ _).alloc (Nat.le_refl _) _).grown hgrow (by simp) (fun b e => by simp [Value.ownBlock] at e; omega)
      obtain ⟨a', cap', rfl⟩ := OwnI.form (xs := xs) hown'
      have HO := Lib.hid hown'
      clear hown' hgrow hown
      go_wp2_with fail
      go_ret
      exact ⟨a', cap', rfl, HO.out, hb⟩

theorem hasElement_any (s i : Int) (w : World) (h0 : 0 ≤ s) (h1 : s ≤ 9223372036854775807) (hi : 0 ≤ i) :
    Calls Try.prog 60 #[.int .i64 s, .int .i64 i] w fun e w' => e = .returned (.bool (hasB s i)) ∧ w = w' := by
  have H := Lib.hid (has_and h0 h1 hi)
  go_enter Try.func60, Try.ntmps60
  go_wp2
  go_ret
  exact ⟨ret_bool H.out, rfl⟩

theorem iCloseRelation_any (n : Int) (a : Option Addr) (xs : List Int) (cap : Nat) (w : World) (hn : -9223372036854775808 ≤ n ∧ n ≤ 9223372036854775807) (hx : Rd w a xs) :
    Calls Try.prog 21 #[.agg #[.int .i64 n, .slice a xs.length cap]] w (GotO w (cloN n xs) (cloL n xs) (relB n xs)) := by
  have hx1 := (hx.alloc (.cells #[.int .i64 n, .slice a xs.length cap] 26)).alloc (.cells #[.int .i64 0, .slice none 0 0] 26)
  cases hr : relB n xs
  · have H1 : Hid (cloN n xs = 0) := by simp [Hid, cloN, hr]
    have H2 : Hid (cloL n xs = []) := by simp [Hid, cloL, hr]
    go_enter Try.func21, Try.ntmps21
    go_wp2_with fail
    refine (iIsRelation_any _ _ _ _ _ hn hx1).mono ?_
    rintro e w1 ⟨rfl, hb1⟩
    have hz := hb1.size
    simp only [World.size_alloc] at hz
    obtain ⟨hc, hf⟩ := bcell hb1
    have bw1 : Below w.heap.size w w1 := Below.trans (by repeat (first | exact Below.refl _ _ | assumption | refine Below.alloc ?_ (by first | exact Nat.le_refl _ | (simp only [World.size_alloc, World.size_setCell, World.size_drew]; omega) | omega) _ | refine Below.setCell ?_ (by first | exact Nat.le_refl _ | (simp only [World.size_alloc, World.size_setCell, World.size_drew]; omega) | omega) _ | refine Below.drew ?_)) (hb1.mono (by first | (simp only [World.size_alloc, World.size_setCell, World.size_drew]; omega) | omega))
    go_wp2_with fail
    refine bodyPost_ret (v := .tuple #[.agg #[.int .i64 0, .slice none 0 0], .bool false]) (by simp [results, Try.results21, go_sem, hc]) rfl ?_
    refine ⟨none, 0, ?_, ?_, ?_⟩
    · rw [H1.out, H2.out]; rfl
    · rw [H2.out]; exact OwnI.nil _ _
    · exact (bw1.setCell (by simp) _).setCell (by simp) _
  · have hp := relB_p hr
    have hsm := hp.sm
    have hl10 : xs.length ≤ 10 := by have := hp.len; have := hp.n1; omega
    have H1 : Hid (cloN n xs = n) := by simp [Hid, cloN, hr]
    have H2 : Hid (cloL n xs = clAll xs xs.length) := by simp [Hid, cloL, hr]
    go_enter Try.func21, Try.ntmps21
    go_wp2_with fail
    refine (iIsRelation_any _ _ _ _ _ hn hx1).mono ?_
    rintro e w1 ⟨rfl, hb1⟩
    have A1 : Box2 w1 w.heap.size (.int .i64 n) (.slice a xs.length cap) := ((Box2.new w _ _ _).below ((Below.refl _ _).alloc (Nat.le_refl _) _)).below hb1
    have R1 : Var2 w1 (w.heap.size + 1) (.int .i64 0) (.slice none 0 0) := by
      have := (Var2.new (w.alloc (.cells #[.int .i64 n, .slice a xs.length cap] 26)) (.int .i64 0) (.slice none 0 0) 26).below hb1
      simpa using this
    have ⟨zA, cA, dA⟩ := A1
    have bw1 : Below w.heap.size w w1 := Below.trans (by repeat (first | exact Below.refl _ _ | assumption | refine Below.alloc ?_ (by first | exact Nat.le_refl _ | (simp only [World.size_alloc, World.size_setCell, World.size_drew]; omega) | omega) _ | refine Below.setCell ?_ (by first | exact Nat.le_refl _ | (simp only [World.size_alloc, World.size_setCell, World.size_drew]; omega) | omega) _ | refine Below.drew ?_)) (hb1.mono (by first | (simp only [World.size_alloc, World.size_setCell, World.size_drew]; omega) | omega))
    have hz1 : w.heap.size + 2 ≤ w1.heap.size := by have := R1.1.1; omega
    clear hb1
    go_wp2_with fail
    refine (sliceClone_any _ _ _ _ (hx.below bw1) (by omega)).mono ?_
    rintro e w2 ⟨a2, cap2, rfl, ho2, ht2⟩
    have A2 := A1.below ht2
    have R2 := R1.below ht2
    have bw2 := bw1.trans (ht2.mono bw1.size)
    have hz2 := ht2.size
    have ho2' := ho2.mono (B' := w.heap.size + 2) hz1
    clear A1 R1 cA dA ho2 ht2
    go_wp2_with fail
    go_loopw [16] (fun i wr => ∃ k : Nat, k ≤ xs.length ∧ i = .int .i64 k ∧ OwnI wr (w.heap.size + 2) (.slice a2 xs.length cap2) (clAll xs k) ∧ Below w.heap.size w wr ∧ Box2 wr w.heap.size (.int .i64 n) (.slice a xs.length cap) ∧ Var2 wr (w.heap.size + 1) (.int .i64 0) (.slice none 0 0)) (fun i _ => xs.length - (intOf i).toNat)
    case atStart => exact ⟨0, Nat.zero_le _, rfl, ho2', bw2, A2, R2⟩
    case round =>
      obtain ⟨k, hk, rfl, hown, hb, hA, hR⟩ := hrel
      by_cases hlt : k < xs.length
      · go_wp2_with fail
        obtain ⟨wo, hwo⟩ : ∃ wo : World, wo = wr := ⟨_, rfl⟩
        go_loopw [21] (fun i wi => ∃ j : Nat, j ≤ xs.length ∧ i = .int .i64 j ∧ OwnI wi (w.heap.size + 2) (.slice a2 xs.length cap2) (clRow (clAll xs k) k j) ∧ Below w.heap.size w wi ∧ Box2 wi w.heap.size (.int .i64 n) (.slice a xs.length cap) ∧ Var2 wi (w.heap.size + 1) (.int .i64 0) (.slice none 0 0)) (fun i _ => xs.length - (intOf i).toNat)
        case atStart => exact ⟨0, Nat.zero_le _, rfl, hown, hb, hA, hR⟩
        case round =>
          obtain ⟨j, hj, rfl, hown, hb, hA, hR⟩ := hrel
          by_cases hjl : j < xs.length
          · obtain ⟨ys, hys⟩ : ∃ ys, ys = clRow (clAll xs k) k j := ⟨_, rfl⟩
            have hyl : ys.length = xs.length := by rw [hys, clRow_len, clAll_len]
            have hysm : Small ys := by rw [hys]; exact clRow_small (clAll_small hsm k hk) (by rw [clAll_len]; exact hlt) j (by rw [clAll_len]; exact hj)
            have hnext : clRow (clAll xs k) k (j + 1) = clStep ys k j := by rw [hys]; rfl
            rw [← hys] at hown
            obtain ⟨g, rfl, hg1, hg2⟩ := hown.head (by omega)
            have ⟨ci, fi⟩ := hown.at' hyl.symm (i := j) (by omega)
            have ⟨ck, fk⟩ := hown.at' hyl.symm (i := k) (by omega)
            have ⟨s0, s1⟩ := hysm j (by omega)
            have ⟨t0, t1⟩ := hysm k (by omega)
            have s2 : nth ys j ≤ 9223372036854775807 := by omega
            have hor := or_i (a := nth ys j) (b := nth ys k) s0 (by omega) t0 (by omega)
            have hput := hown.put hyl.symm j (bits .or .i64 (nth ys j) (nth ys k))
            rw [hor] at hput
            have HY := Lib.hid hyl
            have HN := Lib.hid hnext
            have HO := Lib.hid hor
            have HP := Lib.hid hput
            have j0 : (0 : Int) ≤ (j : Int) := by omega
            have j1 : (j : Int) < (xs.length : Int) := by omega
            have k0 : (0 : Int) ≤ (k : Int) := by omega
            have k1 : (k : Int) < (xs.length : Int) := by omega
            clear hys hyl hysm hnext hor hput
            cases hin : hasB (nth ys j) k
            · go_wp2_with fail
              refine (hasElement_any _ _ _ s0 s2 k0).mono ?_
              rintro e w' ⟨rfl, rfl⟩
              go_wp2_with fail
              go_roundw
              case rel => exact ⟨j + 1, by omega, by go_num, by rw [HN.out, clStep, hin]; exact hown, hb, hA, hR⟩
              case measure => simp [intOf]; omega
            · go_wp2_with fail
              refine (hasElement_any _ _ _ s0 s2 k0).mono ?_
              rintro e w' ⟨rfl, rfl⟩
              go_wp2_with fail
              go_region
              all_goals
                go_wp2_with fail
                go_roundw
                case rel =>
                  refine ⟨j + 1, by omega, by go_num, ?_, ?_, ?_, ?_⟩
                  · rw [HN.out, clStep, hin, if_pos rfl, ← HO.out]
                    have := HP.out.1
                    rw [← HO.out] at this
                    exact this
                  · exact (hb.drew).setCell (p := ⟨g, j, none⟩) (show w.heap.size ≤ g by omega) _
                  · exact hA.set (p := ⟨g, j, none⟩) _ (show w.heap.size ≠ g by omega)
                  · exact hR.other (p := ⟨g, j, none⟩) _ (show w.heap.size + 1 ≠ g by omega)
                case measure => simp [intOf]; omega
          · obtain rfl : j = xs.length := by omega
            go_wp2_with fail
            go_roundw
            case rel => exact ⟨k + 1, by omega, by go_num, by show OwnI wr _ _ (clRow (clAll xs k) k xs.length); exact hown, hb, hA, hR⟩
            case measure => simp [intOf]; omega
      · obtain rfl : k = xs.length := by omega
        have ⟨zA, cA, dA⟩ := hA
        have ⟨⟨zR, cR, dR⟩, fR, gR⟩ := hR
        go_wp2_with fail
        have R3 := hR.set (.int .i64 n) (.slice a2 xs.length cap2)
        refine bodyPost_ret (v := .tuple #[.agg #[.int .i64 n, .slice a2 xs.length cap2], .bool true]) (by have ⟨⟨_, q1, q2⟩, _, _⟩ := R3; simp [results, Try.results21, go_sem, q1, q2]) rfl ?_
        refine ⟨a2, cap2, ?_, ?_, ?_⟩
        · rw [H1.out, H2.out, clAll_len]
        · rw [H2.out, clAll_len]
          exact ((hown.setBelow (p := ⟨w.heap.size + 1, 0, none⟩) (show w.heap.size + 1 < w.heap.size + 2 by omega) _).setBelow (p := ⟨w.heap.size + 1, 1, none⟩) (show w.heap.size + 1 < w.heap.size + 2 by omega) _).mono (by omega)
        · exact (hb.setCell (p := ⟨w.heap.size + 1, 0, none⟩) (show w.heap.size ≤ w.heap.size + 1 by omega) _).setCell (p := ⟨w.heap.size + 1, 1, none⟩) (show w.heap.size ≤ w.heap.size + 1 by omega) _

theorem aboveAny_any (n : Int) (a : Option Addr) (xs : List Int) (cap : Nat) (s : Int) (w : World) (hx : Rd w a xs) (hr : RelP n xs) (h0 : 0 ≤ s) (h1 : s ≤ 9223372036854775807) :
    Calls Try.prog 61 #[.agg #[.int .i64 n, .slice a xs.length cap], .int .i64 s] w fun e w' => e = .returned (.int .i64 (aboveTo xs s xs.length)) ∧ Below w.heap.size w w' := by
  have hx1 := hx.alloc (.cells #[.int .i64 n, .slice a xs.length cap] 26)
  obtain rfl : n = (xs.length : Int) := hr.len.symm
  have hn : xs.length ≤ 10 := by have := hr.n1; omega
  go_enter Try.func61, Try.ntmps61
  go_wp2_with fail
  go_loop [5, 9] (fun s' i' => ∃ k : Nat, k ≤ xs.length ∧ i' = .int .i64 k ∧ s' = .int .i64 (aboveTo xs s k)) (fun _ i => xs.length - (intOf i).toNat)
  case atStart => exact ⟨0, Nat.zero_le _, rfl, rfl⟩
  case round =>
    obtain ⟨k, hk, rfl, rfl⟩ := hrel
    by_cases hlt : k < xs.length
    · obtain ⟨b, off, rfl, hbl, hc⟩ := hx1.cell k hlt
      obtain ⟨b', off', e', hbl', hc'⟩ := hx.cell k hlt
      simp only [Option.some.injEq, Addr.mk.injEq, and_true] at e'
      obtain ⟨rfl, rfl⟩ := e'
      have hpk := hr.pos k hlt
      have hsk := hr.small k hlt
      have hab := aboveTo_lt hr s k hk
      have hor := Lib.hid (or_i (a := (aboveTo xs s k : Nat)) (b := nth xs k) (by omega) (by omega) hpk (by omega))
      clear hab
      cases hin : hasB s k
      · go_wp2_with (go_at_call 60; refine (hasElement_any _ _ _ h0 h1 (by omega)).mono ?_; rintro e w' ⟨rfl, rfl⟩)
        go_round
        case rel => exact ⟨k + 1, by omega, by go_num, by simp [aboveTo, hin]⟩
        case measure => simp [intOf]; omega
      · go_wp2_with (go_at_call 60; refine (hasElement_any _ _ _ h0 h1 (by omega)).mono ?_; rintro e w' ⟨rfl, rfl⟩)
        go_round
        case rel => exact ⟨k + 1, by omega, by go_num, val_int (by rw [hor.out]; simp [aboveTo, hin])⟩
        case measure => simp [intOf]; omega
    · obtain rfl : k = xs.length := by omega
      go_wp2_with fail
      go_ret
      exact ⟨rfl, (by repeat (first | exact Below.refl _ _ | assumption | refine Below.alloc ?_ (by first | exact Nat.le_refl _ | (simp only [World.size_alloc, World.size_setCell, World.size_drew]; omega) | omega) _ | refine Below.setCell ?_ (by first | exact Nat.le_refl _ | (simp only [World.size_alloc, World.size_setCell, World.size_drew]; omega) | omega) _ | refine Below.drew ?_))⟩

theorem iIsOrder_any (n : Int) (a : Option Addr) (xs : List Int) (cap : Nat) (w : World) (hn : -9223372036854775808 ≤ n ∧ n ≤ 9223372036854775807) (hx : Rd w a xs) :
    Calls Try.prog 15 #[.agg #[.int .i64 n, .slice a xs.length cap]] w fun e w' => e = .returned (.bool (ordB n xs)) ∧ Below w.heap.size w w' := by
  have hx1 := hx.alloc (.cells #[.int .i64 n, .slice a xs.length cap] 26)
  have hlen := hx.len
  cases hr : relB n xs
  · have HR : Hid (ordB n xs = false) := by simp [Hid, ordB, hr]
    go_enter Try.func15, Try.ntmps15
    go_wp2_with fail
    refine (iIsRelation_any _ _ _ _ _ hn hx1).mono ?_
    rintro e w1 ⟨rfl, hb1⟩
    go_wp2_with fail
    go_ret
    exact ⟨ret_bool HR.out.symm, Below.trans (by repeat (first | exact Below.refl _ _ | assumption | refine Below.alloc ?_ (by first | exact Nat.le_refl _ | (simp only [World.size_alloc, World.size_setCell, World.size_drew]; omega) | omega) _ | refine Below.setCell ?_ (by first | exact Nat.le_refl _ | (simp only [World.size_alloc, World.size_setCell, World.size_drew]; omega) | omega) _ | refine Below.drew ?_)) (hb1.mono (by first | (simp only [World.size_alloc, World.size_setCell, World.size_drew]; omega) | omega))⟩
  · have hp := relB_p hr
    go_enter Try.func15, Try.ntmps15
    go_wp2_with fail
    refine (iIsRelation_any _ _ _ _ _ hn hx1).mono ?_
    rintro e w1 ⟨rfl, hb1⟩
    have B1 := (Box2.new w _ _ _).below hb1
    have ⟨z1, c1, d1⟩ := B1
    have bw1 : Below w.heap.size w w1 := Below.trans (by repeat (first | exact Below.refl _ _ | assumption | refine Below.alloc ?_ (by first | exact Nat.le_refl _ | (simp only [World.size_alloc, World.size_setCell, World.size_drew]; omega) | omega) _ | refine Below.setCell ?_ (by first | exact Nat.le_refl _ | (simp only [World.size_alloc, World.size_setCell, World.size_drew]; omega) | omega) _ | refine Below.drew ?_)) (hb1.mono (by first | (simp only [World.size_alloc, World.size_setCell, World.size_drew]; omega) | omega))
    have HR := Lib.hid hr
    clear hb1
    go_wp2_with fail
    clear hr
    go_loopw [11] (fun i wr => ∃ k : Nat, k ≤ xs.length ∧ i = .int .i64 k ∧ (∀ j, j < k → okAtB xs j = true) ∧ Below w1.heap.size w1 wr) (fun i _ => xs.length - (intOf i).toNat)
    case atStart => exact ⟨0, Nat.zero_le _, rfl, fun j hj => by omega, Below.refl _ _⟩
    case round =>
      obtain ⟨k, hk, rfl, hall, hb⟩ := hrel
      have ⟨zr, cr, dr⟩ := B1.below hb
      have bwr := bw1.trans (hb.mono bw1.size)
      have HA := Lib.hid hall
      clear hall c1 d1
      by_cases hlt : k < xs.length
      · obtain ⟨b, off, rfl, hbl, hc⟩ := (hx.below bwr).cell k hlt
        have hpk := hp.pos k hlt
        have hsk := hp.small k hlt
        have hsk' : nth xs k ≤ 9223372036854775807 := by omega
        cases hin : hasB (nth xs k) k
        · have hab := aboveTo_lt hp (nth xs k) xs.length (Nat.le_refl _)
          have hsub := sub_i (a := (aboveTo xs (nth xs k) xs.length : Nat)) (b := nth xs k) (by omega) (by omega) hpk (by omega)
          have hok := okAtB_above hin
          rw [Int.toNat_natCast] at hsub
          cases hok2 : okAtB xs k
          · rw [hok2] at hok
            have hne : (bits BinOp.andNot IntKind.i64 ((aboveTo xs (nth xs k) xs.length : Nat) : Int) (nth xs k) != 0) = true := by
              rw [hsub]
              simpa using hok.symm
            have HN := Lib.hid (ordB_no (n := n) hlt hok2)
            clear hok2 hok hsub hab
            go_wp2_with fail
            refine (hasElement_any _ _ _ hpk hsk' (by omega)).mono ?_
            rintro e w' ⟨rfl, rfl⟩
            go_wp2_with fail
            refine (aboveAny_any _ _ _ _ _ _ (hx.below bwr) hp hpk hsk').mono ?_
            rintro e w2 ⟨rfl, hb2⟩
            go_wp2_with fail
            go_ret
            exact ⟨ret_bool HN.out.symm, bwr.trans (hb2.mono bwr.size)⟩
          · rw [hok2] at hok
            have hne : (bits BinOp.andNot IntKind.i64 ((aboveTo xs (nth xs k) xs.length : Nat) : Int) (nth xs k) != 0) = false := by
              rw [hsub]
              simpa using hok.symm
            have HN := Lib.hid hok2
            clear hok2 hok hsub hab
            go_wp2_with fail
            refine (hasElement_any _ _ _ hpk hsk' (by omega)).mono ?_
            rintro e w' ⟨rfl, rfl⟩
            go_wp2_with fail
            refine (aboveAny_any _ _ _ _ _ _ (hx.below bwr) hp hpk hsk').mono ?_
            rintro e w2 ⟨rfl, hb2⟩
            go_wp2_with fail
            go_roundw
            case rel =>
              refine ⟨k + 1, by omega, by go_num, fun j hj => ?_, hb.trans (hb2.mono hb.size)⟩
              by_cases e : j = k
              · rw [e]; exact HN.out
              · exact HA.out j (by omega)
            case measure => simp [intOf]; omega
        · have HN := Lib.hid (ordB_no (n := n) hlt (okAtB_has hin))
          go_wp2_with fail
          refine (hasElement_any _ _ _ hpk hsk' (by omega)).mono ?_
          rintro e w' ⟨rfl, rfl⟩
          go_wp2_with fail
          go_ret
          exact ⟨ret_bool HN.out.symm, bwr⟩
      · obtain rfl : k = xs.length := by omega
        go_wp2_with fail
        go_ret
        exact ⟨ret_bool (ordB_iff.2 ⟨HR.out, HA.out⟩).symm, bwr⟩

theorem iCoversOf_any (n : Int) (a : Option Addr) (xs : List Int) (cap : Nat) (w : World) (hn : -9223372036854775808 ≤ n ∧ n ≤ 9223372036854775807) (hx : Rd w a xs) :
    Calls Try.prog 23 #[.agg #[.int .i64 n, .slice a xs.length cap]] w (GotO w (covN n xs) (covL n xs) (ordB n xs)) := by
  have hx1 := (hx.alloc (.cells #[.int .i64 n, .slice a xs.length cap] 26)).alloc (.cells #[.int .i64 0, .slice none 0 0] 26)
  obtain ⟨i0, hi, hz0, hz1, hz2⟩ := info_parts infoInt
  cases hr : ordB n xs
  · have H1 : Hid (covN n xs = 0) := by simp [Hid, covN, hr]
    have H2 : Hid (covL n xs = []) := by simp [Hid, covL, hr]
    go_enter Try.func23, Try.ntmps23
    go_wp2_with fail
    refine (iIsOrder_any _ _ _ _ _ hn hx1).mono ?_
    rintro e w1 ⟨rfl, hb1⟩
    have hz := hb1.size
    simp only [World.size_alloc] at hz
    obtain ⟨hc, hf⟩ := bcell hb1
    have bw1 : Below w.heap.size w w1 := Below.trans (by repeat (first | exact Below.refl _ _ | assumption | refine Below.alloc ?_ (by first | exact Nat.le_refl _ | (simp only [World.size_alloc, World.size_setCell, World.size_drew]; omega) | omega) _ | refine Below.setCell ?_ (by first | exact Nat.le_refl _ | (simp only [World.size_alloc, World.size_setCell, World.size_drew]; omega) | omega) _ | refine Below.drew ?_)) (hb1.mono (by first | (simp only [World.size_alloc, World.size_setCell, World.size_drew]; omega) | omega))
    go_wp2_with fail
    refine bodyPost_ret (v := .tuple #[.agg #[.int .i64 0, .slice none 0 0], .bool false]) (by simp [results, Try.results23, go_sem, hc]) rfl ?_
    refine ⟨none, 0, ?_, ?_, ?_⟩
    · rw [H1.out, H2.out]; rfl
    · rw [H2.out]; exact OwnI.nil _ _
    · exact (bw1.setCell (by simp) _).setCell (by simp) _
  · have hp := ord_rel hr
    have hl10 : xs.length ≤ 10 := by have := hp.len; have := hp.n1; omega
    have hn0 := hp.n0
    have hn1 := hp.n1
    have H1 : Hid (covN n xs = n) := by simp [Hid, covN, hr]
    have H2 : Hid (covL n xs = covs xs xs.length) := by simp [Hid, covL, hr]
    obtain rfl : n = (xs.length : Int) := hp.len.symm
    go_enter Try.func23, Try.ntmps23
    go_wp2_with fail
    refine (iIsOrder_any _ _ _ _ _ hn hx1).mono ?_
    rintro e w1 ⟨rfl, hb1⟩
    have A1 : Box2 w1 w.heap.size (.int .i64 (xs.length : Int)) (.slice a xs.length cap) := ((Box2.new w _ _ _).below ((Below.refl _ _).alloc (Nat.le_refl _) _)).below hb1
    have R1 : Var2 w1 (w.heap.size + 1) (.int .i64 0) (.slice none 0 0) := by
      have := (Var2.new (w.alloc (.cells #[.int .i64 (xs.length : Int), .slice a xs.length cap] 26)) (.int .i64 0) (.slice none 0 0) 26).below hb1
      simpa using this
    have ⟨zA, cA, dA⟩ := A1
    have bw1 : Below w.heap.size w w1 := Below.trans (by repeat (first | exact Below.refl _ _ | assumption | refine Below.alloc ?_ (by first | exact Nat.le_refl _ | (simp only [World.size_alloc, World.size_setCell, World.size_drew]; omega) | omega) _ | refine Below.setCell ?_ (by first | exact Nat.le_refl _ | (simp only [World.size_alloc, World.size_setCell, World.size_drew]; omega) | omega) _ | refine Below.drew ?_)) (hb1.mono (by first | (simp only [World.size_alloc, World.size_setCell, World.size_drew]; omega) | omega))
    have hz1' : w.heap.size + 2 ≤ w1.heap.size := by have := R1.1.1; omega
    clear hb1
    go_wp2_with (at_make; refine wpList_make_full _ rfl (.tmp 12) (.tmp 12) 24 rfl (w.heap.size + 2) 3 i0 (.int .i64 0) 1 Try.underlying24 hi hz0 hz1 .i64 .i64 _ _ xs.length rfl rfl rfl rfl (by rw [hz2]; omega) (by unfold maxLen; omega) hz1' ?_; intro w2 hown hgrow; have A2 := A1.kept hgrow (by simp); have ⟨zA2, cA2, dA2⟩ := A2)
    have R2 := R1.kept hgrow (by simp)
    have hb2 : Below w.heap.size w w2 := bw1.grown hgrow bw1.size (fun k h => by cases h)
    have hown0 := made_ints (covE xs) hown
    obtain ⟨g, hg⟩ : ∃ g, g = w1.heap.size := ⟨_, rfl⟩
    rw [← hg] at hown0 ⊢
    have hgz : w.heap.size + 2 ≤ g := by omega
    clear hown hgrow A1 R1 cA dA zA hg
    go_wp2_with fail
    go_loopw [17] (fun i wr => ∃ k : Nat, k ≤ xs.length ∧ i = .int .i64 k ∧ wr.ownsRow (w.heap.size + 2) 3 1 (.slice (some ⟨g, 0, none⟩) xs.length xs.length) xs.length ((fmap (covE xs) k ++ List.replicate (xs.length - k) (0:Int)).map (Value.int .i64)) ∧ Below w.heap.size w wr ∧ Box2 wr w.heap.size (.int .i64 (xs.length : Int)) (.slice a xs.length cap) ∧ Var2 wr (w.heap.size + 1) (.int .i64 0) (.slice none 0 0)) (fun i _ => xs.length - (intOf i).toNat)
    case atStart => exact ⟨0, Nat.zero_le _, rfl, hown0, hb2, A2, R2⟩
    case round =>
      obtain ⟨k, hk, rfl, hown, hb, hB, hR⟩ := hrel
      have ⟨zr, cr, dr⟩ := hB
      by_cases hlt : k < xs.length
      · obtain ⟨b, off, rfl, hbl, hc⟩ := (hx.below hb).cell k hlt
        have s0 := hp.pos k hlt
        have s1 := hp.small k hlt
        have s2 : nth xs k ≤ 9223372036854775807 := by omega
        go_wp2_with fail
        refine (aboveAny_any _ _ _ _ _ _ (hx.below hb) hp s0 s2).mono ?_
        rintro e w3 ⟨rfl, hb3⟩
        have hown3 : w3.ownsRow (w.heap.size + 2) 3 1 (.slice (some ⟨g, 0, none⟩) xs.length xs.length) xs.length _ := World.ownsRow.kept hown (below_grown hb3 (Nat.le_refl _) none) (.inr (by simp [Value.ownBlock]))
        have hst := World.ownsRow.stored hown3 k (.int .i64 (covE xs k))
        rw [fill_step (covE xs) xs.length k hlt] at hst
        have hcc := World.ownsRow.cellAt hown3 k (by omega)
        have hfr := World.ownsRow.frozenAt hown3 k
        have hcc' : ∃ u, w3.cell? ⟨g, k, none⟩ = some u := by
          rw [hcc]
          exact ⟨_, List.getElem?_eq_getElem (by simp [fmap_len]; omega)⟩
        obtain ⟨u, hu⟩ := hcc'
        have hB3 := (hB.below hb3).kept hst.2 (by simp; omega)
        have hR3 := (hR.below hb3).kept hst.2 (by simp; omega)
        have hbw := hb.trans (hb3.mono hb.size)
        have hab := aboveTo_lt hp (nth xs k) xs.length (Nat.le_refl _)
        have hsub : bits .andNot .i64 (nth xs k) ((aboveTo xs (nth xs k) xs.length : Nat) : Int) = covE xs k := by
          rw [sub_i s0 (by omega) (by omega) (by omega)]; rfl
        have Hst := Lib.hid hst
        have HS := Lib.hid hsub
        clear hst hcc hown hown3 hb3 hsub hab
        go_wp2_with fail
        go_roundw
        case rel =>
          rw [HS.out]
          exact ⟨k + 1, by omega, by go_num, Hst.out.1, hbw.setCell (p := ⟨g, k, none⟩) (show w.heap.size ≤ g by omega) _, hB3, hR3⟩
        case measure => simp [intOf]; omega
      · obtain rfl : k = xs.length := by omega
        have ⟨⟨zR, cR, dR⟩, fR, gR⟩ := hR
        rw [fill_end] at hown
        have ho : OwnI wr (w.heap.size + 2) (.slice (some ⟨g, 0, none⟩) xs.length xs.length) (covs xs xs.length) := by
          show World.ownsRow _ _ _ _ _ _ _
          rw [covs_len]
          exact hown
        go_wp2_with fail
        have R3 := hR.set (.int .i64 (xs.length : Int)) (.slice (some ⟨g, 0, none⟩) xs.length xs.length)
        refine bodyPost_ret (v := .tuple #[.agg #[.int .i64 (xs.length : Int), .slice (some ⟨g, 0, none⟩) xs.length xs.length], .bool true]) (by have ⟨⟨_, q1, q2⟩, _, _⟩ := R3; simp [results, Try.results23, go_sem, q1, q2]) rfl ?_
        refine ⟨some ⟨g, 0, none⟩, xs.length, ?_, ?_, ?_⟩
        · rw [H1.out, H2.out, covs_len]
        · rw [H2.out, covs_len]
          exact ((ho.setBelow (p := ⟨w.heap.size + 1, 0, none⟩) (show w.heap.size + 1 < w.heap.size + 2 by omega) _).setBelow (p := ⟨w.heap.size + 1, 1, none⟩) (show w.heap.size + 1 < w.heap.size + 2 by omega) _).mono (by omega)
        · exact (hb.setCell (p := ⟨w.heap.size + 1, 0, none⟩) (show w.heap.size ≤ w.heap.size + 1 by omega) _).setCell (p := ⟨w.heap.size + 1, 1, none⟩) (show w.heap.size ≤ w.heap.size + 1 by omega) _

theorem orList_any (s : Int) (w : World) (h0 : 0 ≤ s) (h1 : s < 1024) :
    Calls Try.prog 71 #[.int .i64 s] w fun e w' => ∃ a cap, e = .returned (.slice a (elems s.toNat).length cap) ∧ OwnI w' w.heap.size (.slice a (elems s.toNat).length cap) (elems s.toNat) ∧ Below w.heap.size w w' := by
  obtain ⟨S, rfl⟩ := Int.eq_ofNat_of_zero_le h0
  have hS : S < 1024 := by omega
  obtain ⟨i0, hi, hz0, hz1, hz2⟩ := info_parts infoInt
  have hsh : ∀ k : Nat, (S : Int) / 2 ^ min k 64 = ((S >>> k : Nat) : Int) := fun k => shr_nat S k (by omega)
  have HSH := Lib.hid hsh
  clear hsh
  go_enter Try.func71, Try.ntmps71
  go_wp2_with fail
  go_loopw [3, 4] (fun v i wr => ∃ k : Nat, k ≤ 10 ∧ i = .int .i64 k ∧ wr.ownsRow w.heap.size 3 1 v (elemsTo S k).length ((elemsTo S k).map (Value.int .i64)) ∧ Below w.heap.size w wr) (fun _ i _ => 10 - (intOf i).toNat)
  case atStart => exact ⟨0, by omega, rfl, by simpa [elemsTo] using World.ownsRow_nil _ _ _ _, Below.refl _ _⟩
  case round =>
    obtain ⟨k, hk, rfl, hown, hb⟩ := hrel
    have hln := elemsTo_len S k
    have hsz := hb.size
    have hq := HSH.out k
    rw [show min k 64 = k from by omega] at hq
    by_cases hz : S >>> k = 0
    · have ht : ¬ (0 : Int) < (S : Int) / 2 ^ k := by rw [hq, hz]; omega
      have HZ := Lib.hid hz
      clear hq hz
      go_wp2_with fail
      go_ret
      have e := elems_at HZ.out hk
      rw [e] at hown
      obtain ⟨a, cap, rfl⟩ := OwnI.form hown
      exact ⟨a, cap, rfl, hown, hb⟩
    · have ht : (0 : Int) < (S : Int) / 2 ^ k := by rw [hq]; exact Int.natCast_pos.2 (Nat.pos_of_ne_zero hz)
      have hk9 : k < 10 := by
        rcases Nat.lt_or_ge k 10 with h | h
        · exact h
        · obtain rfl : k = 10 := by omega
          exact absurd (by rw [Nat.shiftRight_eq_div_pow]; exact Nat.div_eq_of_lt (by omega)) hz
      clear hq hz
      have hhas : hasB (S : Int) (k : Int) = S.testBit k := rfl
      cases hin : S.testBit k
      · rw [hin] at hhas
        go_wp2_with (go_at_call 69; refine (orHas_any _ _ _ (by omega) (by omega) (by omega)).mono ?_; rintro e w' ⟨rfl, rfl⟩)
        go_roundw
        case rel => exact ⟨k + 1, by omega, by go_num, by simpa [elemsTo, hin] using hown, hb⟩
        case measure => simp [intOf]; omega
      · rw [hin] at hhas
        go_wp2_with (first | (go_at_call 69; refine (orHas_any _ _ _ (by omega) (by omega) (by omega)).mono ?_; rintro e w' ⟨rfl, rfl⟩) | (at_builtin; refine wpList_append_own _ rfl _ _ 24 rfl w.heap.size 3 i0 (.int .i64 0) 1 8 Try.underlying24 hi hz0 hz1 hz2 rfl (by decide) _ _ _ rfl (hown.alloc _) ⟨wr.heap.size, 0, none⟩ 1 1 [.int .i64 k] rfl rfl ?c1 ?c2 ?c3 ?c4 ?c5 ?_))
        case c1 =>
          intro j u hj
          match j, hj with
          | 0, hj => simp at hj; subst hj; simp [Addr.add]
        case c2 => intro u hu; simp at hu; subst hu; rfl
        case c3 => unfold maxLen; omega
        case c4 => omega
        case c5 => simp; omega
        · intro v' w1 hown' hgrow _
          have hlt := World.ownsRow.lt hown
          have hb1 : Below w.heap.size w w1 := (hb.alloc hsz _).grown hgrow (by simp; omega) (fun b e => (hlt b e).1)
          have HO := Lib.hid hown'
          clear hown' hgrow hown
          go_wp2_with fail
          go_roundw
          case rel => exact ⟨k + 1, by omega, by go_num, by simpa [elemsTo, hin] using HO.out, hb1⟩
          case measure => simp [intOf]; omega

theorem elem_at {n : Int} {xs : List Int} (hp : RelP n xs) {k : Nat} (hk : k < xs.length) {m : Nat} (hm : m < (elems (nth xs k).toNat).length) :
    ∃ i : Nat, i < xs.length ∧ hasB (nth xs k) i = true ∧ nth (elems (nth xs k).toNat) m = (i : Int) := by
  have h1 := hp.small k hk
  have h0 := hp.pos k hk
  obtain ⟨i, hb, e⟩ := (mem_elems (by omega)).1 (nth_mem hm)
  exact ⟨i, has_lt hp hk hb, hb, e⟩
theorem at_elem {n : Int} {xs : List Int} (hp : RelP n xs) {k : Nat} (hk : k < xs.length) {j : Nat} (h : hasB (nth xs k) j = true) :
    ∃ m, m < (elems (nth xs k).toNat).length ∧ nth (elems (nth xs k).toNat) m = (j : Int) := by
  have h1 := hp.small k hk
  have h0 := hp.pos k hk
  have : (j : Int) ∈ elems (nth xs k).toNat := (mem_elems (by omega)).2 ⟨j, h, rfl⟩
  obtain ⟨m, hm, e⟩ := mem_nth this
  exact ⟨m, hm, e⟩
theorem orGood_any (n : Int) (a : Option Addr) (xs : List Int) (cap : Nat) (w : World) (hx : Rd w a xs) :
    Calls Try.prog 70 #[.agg #[.int .i64 n, .slice a xs.length cap]] w fun e w' => e = .returned (.bool (ordB n xs)) ∧ Below w.heap.size w w' := by
  have hx1 := hx.alloc (.cells #[.int .i64 n, .slice a xs.length cap] 26)
  have hlen := hx.len
  cases hr : relB n xs
  · have HR : Hid (ordB n xs = false) := by simp [Hid, ordB, hr]
    go_enter Try.func70, Try.ntmps70
    go_wp2_with fail
    refine (orRelation_any _ _ _ _ _ hx1).mono ?_
    rintro e w1 ⟨rfl, hb1⟩
    go_wp2_with fail
    go_ret
    exact ⟨ret_bool HR.out.symm, Below.trans (by repeat (first | exact Below.refl _ _ | assumption | refine Below.alloc ?_ (by first | exact Nat.le_refl _ | (simp only [World.size_alloc, World.size_setCell, World.size_drew]; omega) | omega) _ | refine Below.setCell ?_ (by first | exact Nat.le_refl _ | (simp only [World.size_alloc, World.size_setCell, World.size_drew]; omega) | omega) _ | refine Below.drew ?_)) (hb1.mono (by first | (simp only [World.size_alloc, World.size_setCell, World.size_drew]; omega) | omega))⟩
  · have hp := relB_p hr
    go_enter Try.func70, Try.ntmps70
    go_wp2_with fail
    refine (orRelation_any _ _ _ _ _ hx1).mono ?_
    rintro e w1 ⟨rfl, hb1⟩
    have B1 := (Box2.new w _ _ _).below hb1
    have ⟨z1, c1, d1⟩ := B1
    have bw1 : Below w.heap.size w w1 := Below.trans (by repeat (first | exact Below.refl _ _ | assumption | refine Below.alloc ?_ (by first | exact Nat.le_refl _ | (simp only [World.size_alloc, World.size_setCell, World.size_drew]; omega) | omega) _ | refine Below.setCell ?_ (by first | exact Nat.le_refl _ | (simp only [World.size_alloc, World.size_setCell, World.size_drew]; omega) | omega) _ | refine Below.drew ?_)) (hb1.mono (by first | (simp only [World.size_alloc, World.size_setCell, World.size_drew]; omega) | omega))
    have HR := Lib.hid hr
    clear hb1
    go_wp2_with fail
    clear hr
    go_loopw [13] (fun i wr => ∃ k : Nat, k ≤ xs.length ∧ i = .int .i64 k ∧ (∀ j, j < k → okAtB xs j = true) ∧ Below w1.heap.size w1 wr) (fun i _ => xs.length - (intOf i).toNat)
    case atStart => exact ⟨0, Nat.zero_le _, rfl, fun j hj => by omega, Below.refl _ _⟩
    case round =>
      obtain ⟨k, hk, rfl, hall, hb⟩ := hrel
      have Br := B1.below hb
      have ⟨zr, cr, dr⟩ := Br
      have bwr := bw1.trans (hb.mono bw1.size)
      have HA := Lib.hid hall
      clear hall c1 d1
      by_cases hlt : k < xs.length
      · obtain ⟨b, off, rfl, hbl, hc⟩ := (hx.below bwr).cell k hlt
        have hpk := hp.pos k hlt
        have hsk := hp.small k hlt
        have hsk' : nth xs k ≤ 9223372036854775807 := by omega
        cases hin : hasB (nth xs k) k
        · go_wp2_with fail
          refine (orHas_any _ _ _ hpk hsk' (by omega)).mono ?_
          rintro e w' ⟨rfl, rfl⟩
          go_wp2_with fail
          refine (orList_any _ _ hpk hsk).mono ?_
          rintro e w2 ⟨a2, cap2, rfl, ho2, hb2⟩
          have ⟨z2, c2, d2⟩ := Br.below hb2
          have bw2 := bwr.trans (hb2.mono bwr.size)
          have hx2 := hx.below bw2
          have hr2 := ho2.rd
          have bk2 := hb.trans (hb2.mono hb.size)
          have hel := elems_len (nth xs k).toNat
          have HI := Lib.hid hin
          clear hin cr dr hc
          obtain ⟨es, hes⟩ : ∃ es, es = elems (nth xs k).toNat := ⟨_, rfl⟩
          rw [← hes] at ho2 hr2 hel
          have HES := Lib.hid hes
          rw [← hes]
          clear hes ho2 hb2
          go_wp2_with fail
          go_loop [24] (fun i => ∃ j : Nat, j ≤ es.length ∧ i = .int .i64 j ∧ (∀ m, m < j → sub (nth xs (nth es m).toNat).toNat (nth xs k).toNat = 0)) (fun i => es.length - (intOf i).toNat)
          case atStart => exact ⟨0, Nat.zero_le _, rfl, fun m hm => by omega⟩
          case round =>
            obtain ⟨j, hj, rfl, hin2⟩ := hrel
            have HIN := Lib.hid hin2
            clear hin2
            by_cases hjl : j < es.length
            · obtain ⟨b2, off2, rfl, hbl2, hc2⟩ := hr2.cell j hjl
              obtain ⟨i, hil, hib, hie⟩ : ∃ i : Nat, i < xs.length ∧ hasB (nth xs k) i = true ∧ nth es j = (i : Int) := by
                have := elem_at hp hlt (m := j) (by rw [← HES.out]; exact hjl)
                rw [← HES.out] at this
                exact this
              obtain ⟨b3, off3, e3, hbl3, hc3⟩ := hx2.cell i hil
              simp only [Option.some.injEq, Addr.mk.injEq, and_true] at e3
              obtain ⟨rfl, rfl⟩ := e3
              have hpi := hp.pos i hil
              have hsi := hp.small i hil
              have hsub := sub_i (a := nth xs i) (b := nth xs k) hpi (by omega) hpk (by omega)
              have HB := Lib.hid hib
              have HE := Lib.hid hie
              rw [hie] at hc2
              clear hib hie
              by_cases hz : sub (nth xs i).toNat (nth xs k).toNat = 0
              · have hne : (bits BinOp.andNot IntKind.i64 (nth xs i) (nth xs k) != 0) = false := by rw [hsub, hz]; rfl
                have HZ := Lib.hid hz
                clear hz hsub
                go_wp2_with fail
                go_round
                case rel =>
                  refine ⟨j + 1, by omega, by go_num, fun m hm => ?_⟩
                  by_cases e : m = j
                  · rw [e, HE.out, Int.toNat_natCast]; exact HZ.out
                  · exact HIN.out m (by omega)
                case measure => simp [intOf]; omega
              · have hne : (bits BinOp.andNot IntKind.i64 (nth xs i) (nth xs k) != 0) = true := by rw [hsub]; simp; omega
                have HN := Lib.hid (ordB_no (n := n) hlt (okAtB_sub hil HB.out hz))
                clear hz hsub
                go_wp2_with fail
                go_ret
                exact ⟨ret_bool HN.out.symm, bw2⟩
            · obtain rfl : j = es.length := by omega
              have hok : okAtB xs k = true := by
                rw [okAtB_iff]
                refine ⟨HI.out, fun j hj hbj => ?_⟩
                obtain ⟨m, hm, e⟩ := at_elem hp hlt hbj
                rw [← HES.out] at hm e
                have := HIN.out m hm
                rwa [e, Int.toNat_natCast] at this
              have HK := Lib.hid hok
              clear hok
              go_wp2_with fail
              go_roundw
              case rel =>
                refine ⟨k + 1, by omega, by go_num, fun j hj => ?_, bk2⟩
                by_cases e : j = k
                · rw [e]; exact HK.out
                · exact HA.out j (by omega)
              case measure => simp [intOf]; omega
        · have HN := Lib.hid (ordB_no (n := n) hlt (okAtB_has hin))
          go_wp2_with fail
          refine (orHas_any _ _ _ hpk hsk' (by omega)).mono ?_
          rintro e w' ⟨rfl, rfl⟩
          go_wp2_with fail
          go_ret
          exact ⟨ret_bool HN.out.symm, bwr⟩
      · obtain rfl : k = xs.length := by omega
        go_wp2_with fail
        go_ret
        exact ⟨ret_bool (ordB_iff.2 ⟨HR.out, HA.out⟩).symm, bwr⟩

def farTo (xs es : List Int) : Nat → Nat
  | 0 => 0
  | m+1 => farTo xs es m ||| (nth xs (nth es m).toNat).toNat
theorem farTo_bit (xs es : List Int) (j : Nat) : ∀ k, (farTo xs es k).testBit j = true ↔ ∃ m, m < k ∧ (nth xs (nth es m).toNat).toNat.testBit j = true
  | 0 => by simp [farTo]
  | k+1 => by
    have ih := farTo_bit xs es j k
    simp only [farTo]
    rw [Nat.testBit_or, Bool.or_eq_true, ih]
    constructor
    · rintro (⟨i, h1, h2⟩ | h)
      · exact ⟨i, by omega, h2⟩
      · exact ⟨k, by omega, h⟩
    · rintro ⟨i, h1, h2⟩
      by_cases e : i = k
      · subst e; exact .inr h2
      · exact .inl ⟨i, by omega, h2⟩
theorem far_above {n : Int} {xs : List Int} (hp : RelP n xs) {k : Nat} (hk : k < xs.length) :
    farTo xs (elems (nth xs k).toNat) (elems (nth xs k).toNat).length = aboveTo xs (nth xs k) xs.length := by
  apply Nat.eq_of_testBit_eq
  intro j
  rw [Bool.eq_iff_iff, farTo_bit, aboveTo_bit]
  constructor
  · rintro ⟨m, hm, hb⟩
    obtain ⟨i, hi, hib, e⟩ := elem_at hp hk hm
    rw [e, Int.toNat_natCast] at hb
    exact ⟨i, hi, hib, hb⟩
  · rintro ⟨i, hi, hib, hb⟩
    obtain ⟨m, hm, e⟩ := at_elem hp hk hib
    exact ⟨m, hm, by rw [e, Int.toNat_natCast]; exact hb⟩
theorem farTo_lt {n : Int} {xs : List Int} (hp : RelP n xs) {k : Nat} (hk : k < xs.length) : ∀ m, m ≤ (elems (nth xs k).toNat).length → farTo xs (elems (nth xs k).toNat) m < 2 ^ 10
  | 0, _ => by simp [farTo]
  | m+1, hm => by
    have ih := farTo_lt hp hk m (by omega)
    obtain ⟨i, hi, hib, e⟩ := elem_at hp hk (m := m) (by omega)
    have h0 := hp.pos i hi
    have h1 := hp.small i hi
    simp only [farTo]
    rw [e, Int.toNat_natCast]
    exact or_lt ih (by omega)

theorem sCoversOf_any (n : Int) (a : Option Addr) (xs : List Int) (cap : Nat) (w : World) (hn : -9223372036854775808 ≤ n ∧ n ≤ 9223372036854775807) (hx : Rd w a xs) :
    Calls Try.prog 24 #[.agg #[.int .i64 n, .slice a xs.length cap]] w (GotO w (covN n xs) (covL n xs) (ordB n xs)) := by
  have hx1 := (hx.alloc (.cells #[.int .i64 n, .slice a xs.length cap] 26)).alloc (.cells #[.int .i64 0, .slice none 0 0] 26)
  obtain ⟨i0, hi, hz0, hz1, hz2⟩ := info_parts infoInt
  cases hr : ordB n xs
  · have H1 : Hid (covN n xs = 0) := by simp [Hid, covN, hr]
    have H2 : Hid (covL n xs = []) := by simp [Hid, covL, hr]
    go_enter Try.func24, Try.ntmps24
    go_wp2_with fail
    refine (orGood_any _ _ _ _ _ hx1).mono ?_
    rintro e w1 ⟨rfl, hb1⟩
    have hz := hb1.size
    simp only [World.size_alloc] at hz
    obtain ⟨hc, hf⟩ := bcell hb1
    have bw1 : Below w.heap.size w w1 := Below.trans (by repeat (first | exact Below.refl _ _ | assumption | refine Below.alloc ?_ (by first | exact Nat.le_refl _ | (simp only [World.size_alloc, World.size_setCell, World.size_drew]; omega) | omega) _ | refine Below.setCell ?_ (by first | exact Nat.le_refl _ | (simp only [World.size_alloc, World.size_setCell, World.size_drew]; omega) | omega) _ | refine Below.drew ?_)) (hb1.mono (by first | (simp only [World.size_alloc, World.size_setCell, World.size_drew]; omega) | omega))
    go_wp2_with fail
    refine bodyPost_ret (v := .tuple #[.agg #[.int .i64 0, .slice none 0 0], .bool false]) (by simp [results, Try.results24, go_sem, hc]) rfl ?_
    refine ⟨none, 0, ?_, ?_, ?_⟩
    · rw [H1.out, H2.out]; rfl
    · rw [H2.out]; exact OwnI.nil _ _
    · exact (bw1.setCell (by simp) _).setCell (by simp) _
  · have hp := ord_rel hr
    have hl10 : xs.length ≤ 10 := by have := hp.len; have := hp.n1; omega
    have H1 : Hid (covN n xs = n) := by simp [Hid, covN, hr]
    have H2 : Hid (covL n xs = covs xs xs.length) := by simp [Hid, covL, hr]
    go_enter Try.func24, Try.ntmps24
    go_wp2_with fail
    refine (orGood_any _ _ _ _ _ hx1).mono ?_
    rintro e w1 ⟨rfl, hb1⟩
    have A1 : Box2 w1 w.heap.size (.int .i64 n) (.slice a xs.length cap) := ((Box2.new w _ _ _).below ((Below.refl _ _).alloc (Nat.le_refl _) _)).below hb1
    have R1 : Var2 w1 (w.heap.size + 1) (.int .i64 0) (.slice none 0 0) := by
      have := (Var2.new (w.alloc (.cells #[.int .i64 n, .slice a xs.length cap] 26)) (.int .i64 0) (.slice none 0 0) 26).below hb1
      simpa using this
    have ⟨zA, cA, dA⟩ := A1
    have bw1 : Below w.heap.size w w1 := Below.trans (by repeat (first | exact Below.refl _ _ | assumption | refine Below.alloc ?_ (by first | exact Nat.le_refl _ | (simp only [World.size_alloc, World.size_setCell, World.size_drew]; omega) | omega) _ | refine Below.setCell ?_ (by first | exact Nat.le_refl _ | (simp only [World.size_alloc, World.size_setCell, World.size_drew]; omega) | omega) _ | refine Below.drew ?_)) (hb1.mono (by first | (simp only [World.size_alloc, World.size_setCell, World.size_drew]; omega) | omega))
    have hz1' : w.heap.size + 2 ≤ w1.heap.size := by have := R1.1.1; omega
    clear hb1
    go_wp2_with fail
    clear hr
    obtain ⟨g, hg⟩ : ∃ g, g = w1.heap.size := ⟨_, rfl⟩
    go_loopw [20] (fun i wr => ∃ (k : Nat) (v : Value), k ≤ xs.length ∧ i = .int .i64 k ∧ OwnI wr (w1.heap.size + 1) v (covs xs k) ∧ Below w.heap.size w wr ∧ Box2 wr w.heap.size (.int .i64 n) (.slice a xs.length cap) ∧ Var2 wr (w.heap.size + 1) (.int .i64 0) (.slice none 0 0) ∧ Var2 wr w1.heap.size (.int .i64 n) v) (fun i _ => xs.length - (intOf i).toNat)
    case atStart => exact ⟨0, .slice none 0 0, Nat.zero_le _, rfl, OwnI.nil _ _, bw1.alloc bw1.size _, A1.below ((Below.refl _ _).alloc (Nat.le_refl _) _), R1.alloc _, Var2.new _ _ _ _⟩
    case round =>
      obtain ⟨k, v, hk, rfl, hown, hb, hA, hR, hV⟩ := hrel
      have ⟨zr, cr, dr⟩ := hA
      obtain ⟨av, capv, rfl⟩ := hown.form
      rw [covs_len] at hV hown
      by_cases hlt : k < xs.length
      · obtain ⟨b, off, rfl, hbl, hc⟩ := (hx.below hb).cell k hlt
        have hpk := hp.pos k hlt
        have hsk := hp.small k hlt
        go_wp2_with fail
        refine (orList_any _ _ hpk hsk).mono ?_
        rintro e w2 ⟨a2, cap2, rfl, ho2, hb2⟩
        have A2 := hA.below hb2
        have R2 := hR.below hb2
        have V2 := hV.below hb2
        have hown2 := hown.below hb2 (Nat.le_refl _)
        have bw2 := hb.trans (hb2.mono hb.size)
        have ⟨z2, c2, d2⟩ := A2
        have hx2 := hx.below bw2
        have hr2 := ho2.rd
        have hel := elems_len (nth xs k).toNat
        have z12 : w1.heap.size < w2.heap.size := V2.1.1
        clear cr dr hc hA hR hV hown
        obtain ⟨es, hes⟩ : ∃ es, es = elems (nth xs k).toNat := ⟨_, rfl⟩
        rw [← hes] at ho2 hr2 hel
        have HES := Lib.hid hes
        rw [← hes]
        clear hes ho2 hb2
        go_wp2_with fail
        go_loop [7, 27] (fun f i => ∃ j : Nat, j ≤ es.length ∧ i = .int .i64 j ∧ f = .int .i64 (farTo xs es j)) (fun _ i => es.length - (intOf i).toNat)
        case atStart => exact ⟨0, Nat.zero_le _, rfl, rfl⟩
        case round =>
          obtain ⟨j, hj, rfl, rfl⟩ := hrel
          by_cases hjl : j < es.length
          · obtain ⟨b2, off2, rfl, hbl2, hc2⟩ := hr2.cell j hjl
            obtain ⟨i, hil, hib, hie⟩ : ∃ i : Nat, i < xs.length ∧ hasB (nth xs k) i = true ∧ nth es j = (i : Int) := by
              have := elem_at hp hlt (m := j) (by rw [← HES.out]; exact hjl)
              rw [← HES.out] at this
              exact this
            obtain ⟨b3, off3, e3, hbl3, hc3⟩ := hx2.cell i hil
            simp only [Option.some.injEq, Addr.mk.injEq, and_true] at e3
            obtain ⟨rfl, rfl⟩ := e3
            have hpi := hp.pos i hil
            have hsi := hp.small i hil
            have hfl : farTo xs es j < 2 ^ 10 := by
              have := farTo_lt hp hlt j (by rw [← HES.out]; exact hj)
              rwa [← HES.out] at this
            have hor := or_i (a := (farTo xs es j : Nat)) (b := nth xs i) (by omega) (by omega) hpi (by omega)
            have HO := Lib.hid hor
            have HE := Lib.hid hie
            rw [hie] at hc2
            clear hib hie hor hfl
            go_wp2_with fail
            go_round
            case rel => exact ⟨j + 1, by omega, by go_num, val_int (by rw [HO.out, farTo, HE.out]; rfl)⟩
            case measure => simp [intOf]; omega
          · obtain rfl : j = es.length := by omega
            have hfa : farTo xs es es.length = aboveTo xs (nth xs k) xs.length := by rw [HES.out]; exact far_above hp hlt
            have hfl : aboveTo xs (nth xs k) xs.length < 2 ^ 10 := aboveTo_lt hp _ _ (Nat.le_refl _)
            have hsub : bits .andNot .i64 (nth xs k) ((farTo xs es es.length : Nat) : Int) = covE xs k := by
              rw [hfa, sub_i hpk (by omega) (by omega) (by omega)]; rfl
            have HS := Lib.hid hsub
            have ⟨⟨zV, cV, dV⟩, fV, gV⟩ := V2
            clear hfa hfl hsub
            go_wp2_with (at_builtin; refine wpList_append_own _ rfl _ _ 24 rfl (w1.heap.size + 1) 3 i0 (.int .i64 0) 1 8 Try.underlying24 hi hz0 hz1 hz2 rfl (by decide) (.slice av k capv) k ((covs xs k).map (Value.int .i64)) rfl (by have h := hown2.alloc (.cells #[.int .i64 (bits .andNot .i64 (nth xs k) ((farTo xs es es.length : Nat) : Int))] 3); unfold OwnI at h; rw [covs_len] at h; exact h) ⟨w2.heap.size, 0, none⟩ 1 1 [.int .i64 (bits .andNot .i64 (nth xs k) ((farTo xs es es.length : Nat) : Int))] rfl rfl (cell_one_new _ _ _) (by intro u hu; simp at hu; subst hu; rfl) (by unfold maxLen; omega) (by omega) (by simp; omega) ?_)
            · intro v' w3 hown3 hgrow _
              have hg2 := grown_alloc_set hgrow
              rw [HS.out] at hown3
              have o3 : OwnI w3 (w1.heap.size + 1) v' (covs xs (k + 1)) := by
                unfold OwnI
                rw [covs_len, covs, fmap_succ, List.map_append]
                exact hown3
              have hU := hown2.lt
              have A3 := A2.kept hg2 (ne_own (fun c e => by have := hU c e; omega))
              have R3 := R2.kept hg2 (ne_own (fun c e => by have := hU c e; omega))
              have V3 := V2.kept hg2 (ne_own (fun c e => by have := hU c e; omega))
              have bw3 := bw2.trans (below_of_grown hg2 (fun c e => by have := hU c e; omega) bw2.size)
              have ⟨⟨zV3, cV3, dV3⟩, fV3, gV3⟩ := V3
              obtain ⟨a3, cap3, rfl⟩ := o3.form
              clear hown3 hgrow cV dV fV gV c2 d2 hU
              go_wp2_with fail
              go_roundw
              case rel => exact ⟨k + 1, _, by omega, by go_num, o3.setBelow (p := ⟨w1.heap.size, 1, none⟩) (show w1.heap.size < w1.heap.size + 1 by omega) _, bw3.setCell (p := ⟨w1.heap.size, 1, none⟩) bw1.size _, A3.set (p := ⟨w1.heap.size, 1, none⟩) _ (show w.heap.size ≠ w1.heap.size by omega), R3.other (p := ⟨w1.heap.size, 1, none⟩) _ (show w.heap.size + 1 ≠ w1.heap.size by omega), V3.set1 _⟩
              case measure => simp [intOf]; omega
      · obtain rfl : k = xs.length := by omega
        have ⟨⟨zR, cR, dR⟩, fR, gR⟩ := hR
        have ⟨⟨zV, cV, dV⟩, fV, gV⟩ := hV
        go_wp2_with fail
        have R3 := hR.set (.int .i64 n) (.slice av xs.length capv)
        refine bodyPost_ret (v := .tuple #[.agg #[.int .i64 n, .slice av xs.length capv], .bool true]) (by have ⟨⟨_, q1, q2⟩, _, _⟩ := R3; simp [results, Try.results24, go_sem, q1, q2]) rfl ?_
        refine ⟨av, capv, ?_, ?_, ?_⟩
        · rw [H1.out, H2.out, covs_len]
        · rw [H2.out, covs_len]
          exact ((hown.setBelow (p := ⟨w.heap.size + 1, 0, none⟩) (show w.heap.size + 1 < w1.heap.size + 1 by omega) _).setBelow (p := ⟨w.heap.size + 1, 1, none⟩) (show w.heap.size + 1 < w1.heap.size + 1 by omega) _).mono (by omega)
        · exact (hb.setCell (p := ⟨w.heap.size + 1, 0, none⟩) (show w.heap.size ≤ w.heap.size + 1 by omega) _).setCell (p := ⟨w.heap.size + 1, 1, none⟩) (show w.heap.size ≤ w.heap.size + 1 by omega) _

set_option maxRecDepth 100000 in
set_option maxHeartbeats 8000000 in
theorem walk (a0 : Option Addr) (n0 cap0 : Nat) (a1 : Option Addr) (n1 cap1 : Nat) (w : World) (hR0 : RdB w a0 n0) (hl0 : n0 ≤ 9223372036854775807) (hR1 : RdB w a1 n1) (hl1 : n1 ≤ 9223372036854775807) :
    Calls Try.prog 4 #[.slice a0 n0 cap0, .slice a1 n1 cap1] w fun e w' => e = .returned (.bool true) ∧ Below w.heap.size w w' := by
  go_enter Try.func4, Try.ntmps4
  go_wp2_with fail
  refine (big_any _ _ _ _ _ _ _ hl0 hl1).mono ?_
  rintro e w' ⟨he, rfl⟩
  rcases he with rfl | ⟨rfl, hb0, hb1⟩
  · go_wp2_with fail
    go_ret
    exact ⟨rfl, (by repeat (first | exact Below.refl _ _ | assumption | refine Below.alloc ?_ (by first | exact Nat.le_refl _ | (simp only [World.size_alloc, World.size_setCell, World.size_drew]; omega) | omega) _ | refine Below.setCell ?_ (by first | exact Nat.le_refl _ | (simp only [World.size_alloc, World.size_setCell, World.size_drew]; omega) | omega) _ | refine Below.drew ?_))⟩
  · go_wp2_with fail
    refine (drClose_any _ _ _ _ hR0 hb0).mono ?_
    rintro e w1 ⟨n, a, cap, xs, rfl, ho, hl, hn0, hn1, hx, hb⟩
    have hnn : -9223372036854775808 ≤ n ∧ n ≤ 9223372036854775807 := by omega
    have HB := Lib.hid hb
    have HR := Lib.hid ho.rd
    clear hx ho hb hR0 hR1 hl0 hl1 hb0 hb1
    have HEQ : Hid (∀ (m : Int) (zs : List Int), eqO m zs m zs = true) := fun m zs => eqO_refl m zs
    obtain ⟨N, hN⟩ : ∃ N, N = cloN n xs := ⟨_, rfl⟩
    obtain ⟨L, hL⟩ : ∃ L, L = cloL n xs := ⟨_, rfl⟩
    obtain ⟨Q, hQ⟩ : ∃ Q, Q = relB n xs := ⟨_, rfl⟩
    obtain ⟨M, hM⟩ : ∃ M, M = covN n xs := ⟨_, rfl⟩
    obtain ⟨K, hK⟩ : ∃ K, K = covL n xs := ⟨_, rfl⟩
    obtain ⟨O, hO⟩ : ∃ O, O = ordB n xs := ⟨_, rfl⟩
    have HIC := Lib.hid (fun W (h : Rd W a xs) => iCloseRelation_any n a xs cap W hnn h)
    have HSC := Lib.hid (fun W (h : Rd W a xs) => sCloseRelation_any n a xs cap W hnn h)
    have HIV := Lib.hid (fun W (h : Rd W a xs) => iCoversOf_any n a xs cap W hnn h)
    have HSV := Lib.hid (fun W (h : Rd W a xs) => sCoversOf_any n a xs cap W hnn h)
    have HIO := Lib.hid (fun W (h : Rd W a xs) => iIsOrder_any n a xs cap W hnn h)
    unfold GotO at HIC HSC HIV HSV
    rw [← hN, ← hL, ← hQ] at HIC HSC
    rw [← hM, ← hK, ← hO] at HIV HSV
    rw [← hO] at HIO
    have HN := Lib.hid hN
    have HL := Lib.hid hL
    have HQ := Lib.hid hQ
    have HM := Lib.hid hM
    have HK := Lib.hid hK
    have HO := Lib.hid hO
    have q1 : (Q != Q) = false := by simp
    have q2 : (O != O) = false := by simp
    clear hN hL hQ hM hK hO
    have ba1 : Below w1.heap.size w1 (w1.alloc (.cells #[.int .i64 n, .slice a xs.length cap] 26)) := (Below.refl _ _).alloc (Nat.le_refl _) _
    have HA := Lib.hid (Box2.new w1 (.int .i64 n) (.slice a xs.length cap) 26)
    replace HB := Lib.hid (HB.out.trans (ba1.mono HB.out.size))
    replace HR := Lib.hid (HR.out.below ba1)
    obtain ⟨v1, hv1⟩ : ∃ x : World, x = w1.alloc (.cells #[.int .i64 n, .slice a xs.length cap] 26) := ⟨_, rfl⟩
    have HV1 := Lib.hid hv1
    rw [← hv1] at HA HB HR
    clear ba1 hv1
    have cA := HA.out.2
    go_wp2_with fail
    rw [← HV1.out]
    clear cA
    have ⟨zA, cA, dA⟩ := HA.out
    refine (HIC.out _ HR.out).mono ?_
    rintro e w3 ⟨a3, c3, rfl, ho3, hb3⟩
    try clear zA cA dA
    replace HB := Lib.hid (HB.out.trans (hb3.mono HB.out.size))
    replace HA := Lib.hid (HA.out.below hb3)
    replace HR := Lib.hid (HR.out.below hb3)
    have ⟨zA, cA, dA⟩ := HA.out
    clear hb3
    have HC := Lib.hid ho3.rd
    clear ho3
    have ba3 : Below w3.heap.size w3 (w3.alloc (.cells #[.int .i64 N, .slice a3 L.length c3] 26)) := (Below.refl _ _).alloc (Nat.le_refl _) _
    have HX := Lib.hid (Box2.new w3 (.int .i64 N) (.slice a3 L.length c3) 26)
    replace HB := Lib.hid (HB.out.trans (ba3.mono HB.out.size))
    replace HA := Lib.hid (HA.out.below ba3)
    replace HR := Lib.hid (HR.out.below ba3)
    replace HC := Lib.hid (HC.out.below ba3)
    obtain ⟨v3, hv3⟩ : ∃ x : World, x = w3.alloc (.cells #[.int .i64 N, .slice a3 L.length c3] 26) := ⟨_, rfl⟩
    have HV3 := Lib.hid hv3
    rw [← hv3] at HX HB HA HR HC
    clear ba3 hv3
    have cX := HX.out.2
    go_wp2_with fail
    rw [← HV3.out]
    try clear zA cA dA
    clear cX
    have ⟨zA, cA, dA⟩ := HA.out
    have ⟨zX, cX, dX⟩ := HX.out
    refine (HSC.out _ HR.out).mono ?_
    rintro e w4 ⟨a4, c4, rfl, ho4, hb4⟩
    try clear zA cA dA
    try clear zX cX dX
    replace HB := Lib.hid (HB.out.trans (hb4.mono HB.out.size))
    replace HA := Lib.hid (HA.out.below hb4)
    replace HX := Lib.hid (HX.out.below hb4)
    replace HR := Lib.hid (HR.out.below hb4)
    replace HC := Lib.hid (HC.out.below hb4)
    have ⟨zA, cA, dA⟩ := HA.out
    have ⟨zX, cX, dX⟩ := HX.out
    clear hb4
    have HD := Lib.hid ho4.rd
    clear ho4
    have ba4 : Below w4.heap.size w4 (w4.alloc (.cells #[.int .i64 N, .slice a4 L.length c4] 26)) := (Below.refl _ _).alloc (Nat.le_refl _) _
    have HY := Lib.hid (Box2.new w4 (.int .i64 N) (.slice a4 L.length c4) 26)
    replace HB := Lib.hid (HB.out.trans (ba4.mono HB.out.size))
    replace HA := Lib.hid (HA.out.below ba4)
    replace HX := Lib.hid (HX.out.below ba4)
    replace HR := Lib.hid (HR.out.below ba4)
    replace HC := Lib.hid (HC.out.below ba4)
    replace HD := Lib.hid (HD.out.below ba4)
    obtain ⟨v4, hv4⟩ : ∃ x : World, x = w4.alloc (.cells #[.int .i64 N, .slice a4 L.length c4] 26) := ⟨_, rfl⟩
    have HV4 := Lib.hid hv4
    rw [← hv4] at HY HB HA HX HR HC HD
    clear ba4 hv4
    have cY := HY.out.2
    go_wp2_with fail
    rw [← HV4.out]
    try clear zA cA dA
    try clear zX cX dX
    clear cY
    have ⟨zA, cA, dA⟩ := HA.out
    have ⟨zX, cX, dX⟩ := HX.out
    have ⟨zY, cY, dY⟩ := HY.out
    refine ((pSameO_any N N a3 a4 L L c3 c4 _ HC.out HD.out)).mono ?_
    rw [HEQ.out]
    rintro e w5 ⟨rfl, hb5⟩
    try clear zA cA dA
    try clear zX cX dX
    try clear zY cY dY
    replace HB := Lib.hid (HB.out.trans (hb5.mono HB.out.size))
    replace HA := Lib.hid (HA.out.below hb5)
    replace HX := Lib.hid (HX.out.below hb5)
    replace HY := Lib.hid (HY.out.below hb5)
    replace HR := Lib.hid (HR.out.below hb5)
    replace HC := Lib.hid (HC.out.below hb5)
    replace HD := Lib.hid (HD.out.below hb5)
    have ⟨zA, cA, dA⟩ := HA.out
    have ⟨zX, cX, dX⟩ := HX.out
    have ⟨zY, cY, dY⟩ := HY.out
    clear hb5
    clear HIC HSC
    go_wp2_with fail
    refine (HIV.out _ HR.out).mono ?_
    rintro e w6 ⟨a6, c6, rfl, ho6, hb6⟩
    try clear zA cA dA
    try clear zX cX dX
    try clear zY cY dY
    replace HB := Lib.hid (HB.out.trans (hb6.mono HB.out.size))
    replace HA := Lib.hid (HA.out.below hb6)
    replace HX := Lib.hid (HX.out.below hb6)
    replace HY := Lib.hid (HY.out.below hb6)
    replace HR := Lib.hid (HR.out.below hb6)
    replace HC := Lib.hid (HC.out.below hb6)
    replace HD := Lib.hid (HD.out.below hb6)
    have ⟨zA, cA, dA⟩ := HA.out
    have ⟨zX, cX, dX⟩ := HX.out
    have ⟨zY, cY, dY⟩ := HY.out
    clear hb6
    have HE := Lib.hid ho6.rd
    clear ho6
    have ba6 : Below w6.heap.size w6 (w6.alloc (.cells #[.int .i64 M, .slice a6 K.length c6] 26)) := (Below.refl _ _).alloc (Nat.le_refl _) _
    have HV := Lib.hid (Box2.new w6 (.int .i64 M) (.slice a6 K.length c6) 26)
    replace HB := Lib.hid (HB.out.trans (ba6.mono HB.out.size))
    replace HA := Lib.hid (HA.out.below ba6)
    replace HX := Lib.hid (HX.out.below ba6)
    replace HY := Lib.hid (HY.out.below ba6)
    replace HR := Lib.hid (HR.out.below ba6)
    replace HC := Lib.hid (HC.out.below ba6)
    replace HD := Lib.hid (HD.out.below ba6)
    replace HE := Lib.hid (HE.out.below ba6)
    obtain ⟨v6, hv6⟩ : ∃ x : World, x = w6.alloc (.cells #[.int .i64 M, .slice a6 K.length c6] 26) := ⟨_, rfl⟩
    have HV6 := Lib.hid hv6
    rw [← hv6] at HV HB HA HX HY HR HC HD HE
    clear ba6 hv6
    have cV := HV.out.2
    go_wp2_with fail
    rw [← HV6.out]
    try clear zA cA dA
    try clear zX cX dX
    try clear zY cY dY
    clear cV
    have ⟨zA, cA, dA⟩ := HA.out
    have ⟨zX, cX, dX⟩ := HX.out
    have ⟨zY, cY, dY⟩ := HY.out
    have ⟨zV, cV, dV⟩ := HV.out
    refine (HSV.out _ HR.out).mono ?_
    rintro e w7 ⟨a7, c7, rfl, ho7, hb7⟩
    try clear zA cA dA
    try clear zX cX dX
    try clear zY cY dY
    try clear zV cV dV
    replace HB := Lib.hid (HB.out.trans (hb7.mono HB.out.size))
    replace HA := Lib.hid (HA.out.below hb7)
    replace HX := Lib.hid (HX.out.below hb7)
    replace HY := Lib.hid (HY.out.below hb7)
    replace HV := Lib.hid (HV.out.below hb7)
    replace HR := Lib.hid (HR.out.below hb7)
    replace HC := Lib.hid (HC.out.below hb7)
    replace HD := Lib.hid (HD.out.below hb7)
    replace HE := Lib.hid (HE.out.below hb7)
    have ⟨zA, cA, dA⟩ := HA.out
    have ⟨zX, cX, dX⟩ := HX.out
    have ⟨zY, cY, dY⟩ := HY.out
    have ⟨zV, cV, dV⟩ := HV.out
    clear hb7
    have HF := Lib.hid ho7.rd
    clear ho7
    have ba7 : Below w7.heap.size w7 (w7.alloc (.cells #[.int .i64 M, .slice a7 K.length c7] 26)) := (Below.refl _ _).alloc (Nat.le_refl _) _
    have HU := Lib.hid (Box2.new w7 (.int .i64 M) (.slice a7 K.length c7) 26)
    replace HB := Lib.hid (HB.out.trans (ba7.mono HB.out.size))
    replace HA := Lib.hid (HA.out.below ba7)
    replace HX := Lib.hid (HX.out.below ba7)
    replace HY := Lib.hid (HY.out.below ba7)
    replace HV := Lib.hid (HV.out.below ba7)
    replace HR := Lib.hid (HR.out.below ba7)
    replace HC := Lib.hid (HC.out.below ba7)
    replace HD := Lib.hid (HD.out.below ba7)
    replace HE := Lib.hid (HE.out.below ba7)
    replace HF := Lib.hid (HF.out.below ba7)
    obtain ⟨v7, hv7⟩ : ∃ x : World, x = w7.alloc (.cells #[.int .i64 M, .slice a7 K.length c7] 26) := ⟨_, rfl⟩
    have HV7 := Lib.hid hv7
    rw [← hv7] at HU HB HA HX HY HV HR HC HD HE HF
    clear ba7 hv7
    have cU := HU.out.2
    go_wp2_with fail
    rw [← HV7.out]
    try clear zA cA dA
    try clear zX cX dX
    try clear zY cY dY
    try clear zV cV dV
    clear cU
    have ⟨zA, cA, dA⟩ := HA.out
    have ⟨zX, cX, dX⟩ := HX.out
    have ⟨zY, cY, dY⟩ := HY.out
    have ⟨zV, cV, dV⟩ := HV.out
    have ⟨zU, cU, dU⟩ := HU.out
    refine ((pSameO_any M M a6 a7 K K c6 c7 _ HE.out HF.out)).mono ?_
    rw [HEQ.out]
    rintro e w8 ⟨rfl, hb8⟩
    try clear zA cA dA
    try clear zX cX dX
    try clear zY cY dY
    try clear zV cV dV
    try clear zU cU dU
    replace HB := Lib.hid (HB.out.trans (hb8.mono HB.out.size))
    replace HA := Lib.hid (HA.out.below hb8)
    replace HX := Lib.hid (HX.out.below hb8)
    replace HY := Lib.hid (HY.out.below hb8)
    replace HV := Lib.hid (HV.out.below hb8)
    replace HU := Lib.hid (HU.out.below hb8)
    replace HR := Lib.hid (HR.out.below hb8)
    replace HC := Lib.hid (HC.out.below hb8)
    replace HD := Lib.hid (HD.out.below hb8)
    replace HE := Lib.hid (HE.out.below hb8)
    replace HF := Lib.hid (HF.out.below hb8)
    have ⟨zA, cA, dA⟩ := HA.out
    have ⟨zX, cX, dX⟩ := HX.out
    have ⟨zY, cY, dY⟩ := HY.out
    have ⟨zV, cV, dV⟩ := HV.out
    have ⟨zU, cU, dU⟩ := HU.out
    clear hb8
    go_wp2_with fail
    refine (HIO.out _ HR.out).mono ?_
    rintro e w9 ⟨rfl, hb9⟩
    try clear zA cA dA
    try clear zX cX dX
    try clear zY cY dY
    try clear zV cV dV
    try clear zU cU dU
    replace HB := Lib.hid (HB.out.trans (hb9.mono HB.out.size))
    replace HA := Lib.hid (HA.out.below hb9)
    replace HX := Lib.hid (HX.out.below hb9)
    replace HY := Lib.hid (HY.out.below hb9)
    replace HV := Lib.hid (HV.out.below hb9)
    replace HU := Lib.hid (HU.out.below hb9)
    replace HR := Lib.hid (HR.out.below hb9)
    replace HC := Lib.hid (HC.out.below hb9)
    replace HD := Lib.hid (HD.out.below hb9)
    replace HE := Lib.hid (HE.out.below hb9)
    replace HF := Lib.hid (HF.out.below hb9)
    have ⟨zA, cA, dA⟩ := HA.out
    have ⟨zX, cX, dX⟩ := HX.out
    have ⟨zY, cY, dY⟩ := HY.out
    have ⟨zV, cV, dV⟩ := HV.out
    have ⟨zU, cU, dU⟩ := HU.out
    clear hb9
    clear HIV HSV
    cases hQ : Q
    · go_wp2_with fail
      go_ret
      exact ⟨rfl, HB.out⟩
    · have hr : relB n xs = true := by rw [← HQ.out]; exact hQ
      have hp := relB_p hr
      obtain rfl : n = (xs.length : Int) := hp.len.symm
      have e1 : N = (xs.length : Int) := by rw [HN.out, cloN, hr, if_pos rfl]
      have e2 : L = clo xs := by rw [HL.out, cloL, hr, if_pos rfl]; rfl
      subst e1
      have hcl := clo_len xs
      have HCR := Lib.hid (clo_rel hr)
      have HCC := Lib.hid (clo_clo hr)
      have HLP := Lib.hid (clo_loopTo hr)
      have HOF := Lib.hid (fun (i : Nat) (hi : i < xs.length) => clo_sub hr hi)
      have HCO := Lib.hid (fun (h : ordB (xs.length : Int) xs = true) => clo_ord h)
      have HCV := Lib.hid (fun (h : ordB (xs.length : Int) xs = true) => clo_cov h)
      rw [← e2] at hcl HCR HCC HLP HOF HCO
      have HE2 := Lib.hid e2
      have HCL := Lib.hid hcl
      have HRR := Lib.hid hr
      clear e2 hcl hr hp HL HN hQ
      have HIC : Hid (∀ W, Rd W a3 L → Calls Try.prog 21 #[.agg #[.int .i64 (xs.length : Int), .slice a3 L.length c3]] W fun e w' => ∃ a' c', e = .returned (.tuple #[.agg #[.int .i64 (xs.length : Int), .slice a' L.length c'], .bool true]) ∧ OwnI w' W.heap.size (.slice a' L.length c') L ∧ Below W.heap.size W w') := fun W h => by
        have h1 := iCloseRelation_any (xs.length : Int) a3 L c3 W hnn h
        unfold GotO at h1
        rw [cloN, cloL, HCR.out, if_pos rfl, if_pos rfl, show clAll L L.length = L from HCC.out] at h1
        exact h1
      go_wp2_with fail
      refine (HIC.out _ HC.out).mono ?_
      rintro e w10 ⟨a10, c10, rfl, ho10, hb10⟩
      try clear zA cA dA
      try clear zX cX dX
      try clear zY cY dY
      try clear zV cV dV
      try clear zU cU dU
      replace HB := Lib.hid (HB.out.trans (hb10.mono HB.out.size))
      replace HA := Lib.hid (HA.out.below hb10)
      replace HX := Lib.hid (HX.out.below hb10)
      replace HY := Lib.hid (HY.out.below hb10)
      replace HV := Lib.hid (HV.out.below hb10)
      replace HU := Lib.hid (HU.out.below hb10)
      replace HR := Lib.hid (HR.out.below hb10)
      replace HC := Lib.hid (HC.out.below hb10)
      replace HD := Lib.hid (HD.out.below hb10)
      replace HE := Lib.hid (HE.out.below hb10)
      replace HF := Lib.hid (HF.out.below hb10)
      have ⟨zA, cA, dA⟩ := HA.out
      have ⟨zX, cX, dX⟩ := HX.out
      have ⟨zY, cY, dY⟩ := HY.out
      have ⟨zV, cV, dV⟩ := HV.out
      have ⟨zU, cU, dU⟩ := HU.out
      clear hb10
      have HG := Lib.hid ho10.rd
      clear ho10
      have ba10 : Below w10.heap.size w10 (w10.alloc (.cells #[.int .i64 (xs.length : Int), .slice a10 L.length c10] 26)) := (Below.refl _ _).alloc (Nat.le_refl _) _
      have HZ := Lib.hid (Box2.new w10 (.int .i64 (xs.length : Int)) (.slice a10 L.length c10) 26)
      replace HB := Lib.hid (HB.out.trans (ba10.mono HB.out.size))
      replace HA := Lib.hid (HA.out.below ba10)
      replace HX := Lib.hid (HX.out.below ba10)
      replace HY := Lib.hid (HY.out.below ba10)
      replace HV := Lib.hid (HV.out.below ba10)
      replace HU := Lib.hid (HU.out.below ba10)
      replace HR := Lib.hid (HR.out.below ba10)
      replace HC := Lib.hid (HC.out.below ba10)
      replace HD := Lib.hid (HD.out.below ba10)
      replace HE := Lib.hid (HE.out.below ba10)
      replace HF := Lib.hid (HF.out.below ba10)
      replace HG := Lib.hid (HG.out.below ba10)
      obtain ⟨v10, hv10⟩ : ∃ x : World, x = w10.alloc (.cells #[.int .i64 (xs.length : Int), .slice a10 L.length c10] 26) := ⟨_, rfl⟩
      have HV10 := Lib.hid hv10
      rw [← hv10] at HZ HB HA HX HY HV HU HR HC HD HE HF HG
      clear ba10 hv10
      have cZ := HZ.out.2
      go_wp2_with fail
      rw [← HV10.out]
      try clear zA cA dA
      try clear zX cX dX
      try clear zY cY dY
      try clear zV cV dV
      try clear zU cU dU
      clear cZ
      have ⟨zA, cA, dA⟩ := HA.out
      have ⟨zX, cX, dX⟩ := HX.out
      have ⟨zY, cY, dY⟩ := HY.out
      have ⟨zV, cV, dV⟩ := HV.out
      have ⟨zU, cU, dU⟩ := HU.out
      have ⟨zZ, cZ, dZ⟩ := HZ.out
      refine ((pSameO_any (xs.length : Int) (xs.length : Int) a10 a3 L L c10 c3 _ HG.out HC.out)).mono ?_
      rw [HEQ.out]
      rintro e w11 ⟨rfl, hb11⟩
      try clear zA cA dA
      try clear zX cX dX
      try clear zY cY dY
      try clear zV cV dV
      try clear zU cU dU
      try clear zZ cZ dZ
      replace HB := Lib.hid (HB.out.trans (hb11.mono HB.out.size))
      replace HA := Lib.hid (HA.out.below hb11)
      replace HX := Lib.hid (HX.out.below hb11)
      replace HY := Lib.hid (HY.out.below hb11)
      replace HV := Lib.hid (HV.out.below hb11)
      replace HU := Lib.hid (HU.out.below hb11)
      replace HZ := Lib.hid (HZ.out.below hb11)
      replace HR := Lib.hid (HR.out.below hb11)
      replace HC := Lib.hid (HC.out.below hb11)
      replace HD := Lib.hid (HD.out.below hb11)
      replace HE := Lib.hid (HE.out.below hb11)
      replace HF := Lib.hid (HF.out.below hb11)
      replace HG := Lib.hid (HG.out.below hb11)
      have ⟨zA, cA, dA⟩ := HA.out
      have ⟨zX, cX, dX⟩ := HX.out
      have ⟨zY, cY, dY⟩ := HY.out
      have ⟨zV, cV, dV⟩ := HV.out
      have ⟨zU, cU, dU⟩ := HU.out
      have ⟨zZ, cZ, dZ⟩ := HZ.out
      clear hb11
      go_wp2_with fail
      refine (HIO.out _ HR.out).mono ?_
      rintro e w12 ⟨rfl, hb12⟩
      try clear zA cA dA
      try clear zX cX dX
      try clear zY cY dY
      try clear zV cV dV
      try clear zU cU dU
      try clear zZ cZ dZ
      replace HB := Lib.hid (HB.out.trans (hb12.mono HB.out.size))
      replace HA := Lib.hid (HA.out.below hb12)
      replace HX := Lib.hid (HX.out.below hb12)
      replace HY := Lib.hid (HY.out.below hb12)
      replace HV := Lib.hid (HV.out.below hb12)
      replace HU := Lib.hid (HU.out.below hb12)
      replace HZ := Lib.hid (HZ.out.below hb12)
      replace HR := Lib.hid (HR.out.below hb12)
      replace HC := Lib.hid (HC.out.below hb12)
      replace HD := Lib.hid (HD.out.below hb12)
      replace HE := Lib.hid (HE.out.below hb12)
      replace HF := Lib.hid (HF.out.below hb12)
      replace HG := Lib.hid (HG.out.below hb12)
      have ⟨zA, cA, dA⟩ := HA.out
      have ⟨zX, cX, dX⟩ := HX.out
      have ⟨zY, cY, dY⟩ := HY.out
      have ⟨zV, cV, dV⟩ := HV.out
      have ⟨zU, cU, dU⟩ := HU.out
      have ⟨zZ, cZ, dZ⟩ := HZ.out
      clear hb12
      have HJ : Hid (O = true → L = xs) := fun h => HCO.out (by rw [← HO.out]; exact h)
      have HPL : Hid (O = true → ∀ W, Rd W a3 L → Rd W a xs → Calls Try.prog 14 #[.agg #[.int .i64 (xs.length : Int), .slice a3 L.length c3], .agg #[.int .i64 (xs.length : Int), .slice a xs.length cap]] W fun e w' => e = .returned (.bool true) ∧ Below W.heap.size W w') := fun h W h1 h2 => by
        have h3 := pSameO_any (xs.length : Int) (xs.length : Int) a3 a L xs c3 cap W h1 h2
        rw [HJ.out h, HEQ.out] at h3
        rw [HJ.out h]
        exact h3
      have HBB := Lib.hid (Below.refl w12.heap.size w12)
      cases hO : O
      · go_wp2_with fail
        obtain ⟨wb, hwb⟩ : ∃ x : World, x = w12 := ⟨_, rfl⟩
        rw [← hwb] at HB HA HX HY HV HU HZ HR HC HD HE HF HG cA dA cX dX ⊢
        clear hwb
        go_loopw [16, 103] (fun l i wr => ∃ k : Nat, k ≤ L.length ∧ i = .int .i64 k ∧ l = .bool (loopTo L k) ∧ Below wb.heap.size wb wr) (fun _ i _ => L.length - (intOf i).toNat)
        case atStart => exact ⟨0, Nat.zero_le _, rfl, rfl, Below.refl _ _⟩
        case round =>
          obtain ⟨k, hk, rfl, rfl, hb⟩ := hrel
          by_cases hlt : k < L.length
          · have k1 : (k : Int) < (L.length : Int) := by omega
            have kx : k < xs.length := by rw [← HCL.out]; exact hlt
            have k2 : (k : Int) < (xs.length : Int) := by omega
            have HK1 := Lib.hid hb
            have ⟨zA1, cA1, dA1⟩ := HA.out.below hb
            obtain ⟨b1, o1, rfl, hbl1, hc1⟩ := (HC.out.below hb).cell k hlt
            obtain ⟨b2, o2, rfl, hbl2, hc2⟩ := (HR.out.below hb).cell k kx
            have hz := HOF.out k kx
            have hq := relB_p HCR.out
            have h0 := hq.pos k hlt
            have h9 := hq.small k hlt
            have HP := Lib.hid (fun W => pIn_any (nth L k) (k : Int) W h0 (by omega) (by omega))
            have HS := Lib.hid (loopTo_succ L k)
            clear hb hq
            cases hl1 : loopTo L k
            · rw [hl1] at HS
              go_wp2_with fail
              refine (HP.out _).mono ?_
              rintro e w' ⟨rfl, rfl⟩
              go_wp2_with fail
              go_roundw
              case rel => exact ⟨k + 1, by omega, by go_num, by rw [HS.out, Bool.false_or], HK1.out⟩
              case measure => simp [intOf]; omega
            · rw [hl1] at HS
              go_wp2_with fail
              go_roundw
              case rel => exact ⟨k + 1, by omega, by go_num, by rw [HS.out, Bool.true_or], HK1.out⟩
              case measure => simp [intOf]; omega
          · obtain rfl : k = L.length := by omega
            have ⟨zX1, cX1, dX1⟩ := HX.out.below hb
            have HK1 := Lib.hid hb
            have hio := iIsOrder_any (xs.length : Int) a3 L c3 wr hnn (HC.out.below hb)
            rw [HLP.out, ← HCL.out] at hio
            have HII := Lib.hid hio
            clear hb hio cA dA cX dX zX
            generalize loopTo L L.length = lp at *
            go_wp2_with fail
            rw [HCL.out]
            rw [HCL.out] at HII
            refine HII.out.mono ?_
            rintro e u1 ⟨rfl, hu1⟩
            have HK2 := Lib.hid (HK1.out.trans (hu1.mono HK1.out.size))
            have hnl : ((!lp) == lp) = false := by cases lp <;> rfl
            clear hu1
            go_wp2_with fail
            go_ret
            exact ⟨rfl, HB.out.trans (HK2.out.mono HB.out.size)⟩
      · go_wp2_with fail
        refine ((HPL.out hO _ HC.out HR.out)).mono ?_
        rintro e w13 ⟨rfl, hb13⟩
        try clear zA cA dA
        try clear zX cX dX
        try clear zY cY dY
        try clear zV cV dV
        try clear zU cU dU
        try clear zZ cZ dZ
        replace HB := Lib.hid (HB.out.trans (hb13.mono HB.out.size))
        replace HA := Lib.hid (HA.out.below hb13)
        replace HX := Lib.hid (HX.out.below hb13)
        replace HY := Lib.hid (HY.out.below hb13)
        replace HV := Lib.hid (HV.out.below hb13)
        replace HU := Lib.hid (HU.out.below hb13)
        replace HZ := Lib.hid (HZ.out.below hb13)
        replace HR := Lib.hid (HR.out.below hb13)
        replace HC := Lib.hid (HC.out.below hb13)
        replace HD := Lib.hid (HD.out.below hb13)
        replace HE := Lib.hid (HE.out.below hb13)
        replace HF := Lib.hid (HF.out.below hb13)
        replace HG := Lib.hid (HG.out.below hb13)
        have ⟨zA, cA, dA⟩ := HA.out
        have ⟨zX, cX, dX⟩ := HX.out
        have ⟨zY, cY, dY⟩ := HY.out
        have ⟨zV, cV, dV⟩ := HV.out
        have ⟨zU, cU, dU⟩ := HU.out
        have ⟨zZ, cZ, dZ⟩ := HZ.out
        clear hb13
        go_wp2_with fail
        obtain ⟨wb, hwb⟩ : ∃ x : World, x = w13 := ⟨_, rfl⟩
        rw [← hwb] at HB HA HX HY HV HU HZ HR HC HD HE HF HG cA dA cX dX ⊢
        clear hwb
        go_loopw [16, 103] (fun l i wr => ∃ k : Nat, k ≤ L.length ∧ i = .int .i64 k ∧ l = .bool (loopTo L k) ∧ Below wb.heap.size wb wr) (fun _ i _ => L.length - (intOf i).toNat)
        case atStart => exact ⟨0, Nat.zero_le _, rfl, rfl, Below.refl _ _⟩
        case round =>
          obtain ⟨k, hk, rfl, rfl, hb⟩ := hrel
          by_cases hlt : k < L.length
          · have k1 : (k : Int) < (L.length : Int) := by omega
            have kx : k < xs.length := by rw [← HCL.out]; exact hlt
            have k2 : (k : Int) < (xs.length : Int) := by omega
            have HK1 := Lib.hid hb
            have ⟨zA1, cA1, dA1⟩ := HA.out.below hb
            obtain ⟨b1, o1, rfl, hbl1, hc1⟩ := (HC.out.below hb).cell k hlt
            obtain ⟨b2, o2, rfl, hbl2, hc2⟩ := (HR.out.below hb).cell k kx
            have hz := HOF.out k kx
            have hq := relB_p HCR.out
            have h0 := hq.pos k hlt
            have h9 := hq.small k hlt
            have HP := Lib.hid (fun W => pIn_any (nth L k) (k : Int) W h0 (by omega) (by omega))
            have HS := Lib.hid (loopTo_succ L k)
            clear hb hq
            cases hl1 : loopTo L k
            · rw [hl1] at HS
              go_wp2_with fail
              refine (HP.out _).mono ?_
              rintro e w' ⟨rfl, rfl⟩
              go_wp2_with fail
              go_roundw
              case rel => exact ⟨k + 1, by omega, by go_num, by rw [HS.out, Bool.false_or], HK1.out⟩
              case measure => simp [intOf]; omega
            · rw [hl1] at HS
              go_wp2_with fail
              go_roundw
              case rel => exact ⟨k + 1, by omega, by go_num, by rw [HS.out, Bool.true_or], HK1.out⟩
              case measure => simp [intOf]; omega
          · obtain rfl : k = L.length := by omega
            have ⟨zX1, cX1, dX1⟩ := HX.out.below hb
            have HK1 := Lib.hid hb
            have hio := iIsOrder_any (xs.length : Int) a3 L c3 wr hnn (HC.out.below hb)
            rw [HLP.out, ← HCL.out] at hio
            have HII := Lib.hid hio
            clear hb hio cA dA cX dX zX
            generalize loopTo L L.length = lp at *
            go_wp2_with fail
            rw [HCL.out]
            rw [HCL.out] at HII
            refine HII.out.mono ?_
            rintro e u1 ⟨rfl, hu1⟩
            have HK2 := Lib.hid (HK1.out.trans (hu1.mono HK1.out.size))
            have hnl : ((!lp) == lp) = false := by cases lp <;> rfl
            clear hu1
            replace HB := Lib.hid (HB.out.trans (HK2.out.mono HB.out.size))
            replace HA := Lib.hid (HA.out.below HK2.out)
            replace HV := Lib.hid (HV.out.below HK2.out)
            replace HR := Lib.hid (HR.out.below HK2.out)
            replace HE := Lib.hid (HE.out.below HK2.out)
            try clear zA cA dA zV cV dV
            clear HX HY HU HC HD HF HG HZ HK1 HBB HII HCC HCO HCR HJ HPL HIC HOF
            have hor : ordB (xs.length : Int) xs = true := by rw [← HO.out]; exact hO
            have e3 : M = (xs.length : Int) := by rw [HM.out, covN, hor, if_pos rfl]
            have e4 : K = covs xs xs.length := by rw [HK.out, covL, hor, if_pos rfl]
            have hkl : K.length = xs.length := by rw [e4]; exact covs_len _ _
            subst e3
            have HKR : Hid (relB (xs.length : Int) K = true) := by rw [e4]; exact cov_rel hor
            have HKC : Hid (clo K = xs) := by rw [e4]; exact clo_cov hor
            have HWR : Hid (∀ i j : Nat, i < xs.length → j < xs.length → hasB (nth K i) (j : Int) = true → relB (xs.length : Int) (K.set i (nth K i - 2 ^ j)) = true ∧ hasB (nth (clo (K.set i (nth K i - 2 ^ j))) i) (j : Int) = false) := fun i j hi hj hb => by
              rw [e4] at hb ⊢
              exact ⟨covW_rel hor hi hb, covW_not hor hi hj hb⟩
            have HKL := Lib.hid hkl
            have HI2 : Hid (∀ W, Rd W a6 K → Calls Try.prog 21 #[.agg #[.int .i64 (xs.length : Int), .slice a6 K.length c6]] W fun e w' => ∃ a' c', e = .returned (.tuple #[.agg #[.int .i64 (xs.length : Int), .slice a' xs.length c'], .bool true]) ∧ OwnI w' W.heap.size (.slice a' xs.length c') xs ∧ Below W.heap.size W w') := fun W h => by
              have h1 := iCloseRelation_any (xs.length : Int) a6 K c6 W hnn h
              unfold GotO at h1
              rw [cloN, cloL, HKR.out, if_pos rfl, if_pos rfl, show clAll K K.length = xs from HKC.out] at h1
              exact h1
            clear e4 hkl HM HK
            try clear zA cA dA
            try clear zV cV dV
            have ⟨zA, cA, dA⟩ := HA.out
            have ⟨zV, cV, dV⟩ := HV.out
            go_wp2_with fail
            refine (HI2.out _ HE.out).mono ?_
            rintro e w14 ⟨a14, c14, rfl, ho14, hb14⟩
            try clear zA cA dA
            try clear zV cV dV
            replace HB := Lib.hid (HB.out.trans (hb14.mono HB.out.size))
            replace HA := Lib.hid (HA.out.below hb14)
            replace HV := Lib.hid (HV.out.below hb14)
            replace HR := Lib.hid (HR.out.below hb14)
            replace HE := Lib.hid (HE.out.below hb14)
            have ⟨zA, cA, dA⟩ := HA.out
            have ⟨zV, cV, dV⟩ := HV.out
            clear hb14
            have HG := Lib.hid ho14.rd
            clear ho14 HI2
            have ba14 : Below w14.heap.size w14 (w14.alloc (.cells #[.int .i64 (xs.length : Int), .slice a14 xs.length c14] 26)) := (Below.refl _ _).alloc (Nat.le_refl _) _
            have HP := Lib.hid (Box2.new w14 (.int .i64 (xs.length : Int)) (.slice a14 xs.length c14) 26)
            replace HB := Lib.hid (HB.out.trans (ba14.mono HB.out.size))
            replace HA := Lib.hid (HA.out.below ba14)
            replace HV := Lib.hid (HV.out.below ba14)
            replace HR := Lib.hid (HR.out.below ba14)
            replace HE := Lib.hid (HE.out.below ba14)
            replace HG := Lib.hid (HG.out.below ba14)
            obtain ⟨v14, hv14⟩ : ∃ x : World, x = w14.alloc (.cells #[.int .i64 (xs.length : Int), .slice a14 xs.length c14] 26) := ⟨_, rfl⟩
            have HV14 := Lib.hid hv14
            rw [← hv14] at HP HB HA HV HR HE HG
            clear ba14 hv14
            have cP := HP.out.2
            go_wp2_with fail
            rw [← HV14.out]
            try clear zA cA dA
            try clear zV cV dV
            clear cP
            have ⟨zA, cA, dA⟩ := HA.out
            have ⟨zV, cV, dV⟩ := HV.out
            have ⟨zP, cP, dP⟩ := HP.out
            refine ((pSameO_any (xs.length : Int) (xs.length : Int) a14 a xs xs c14 cap _ HG.out HR.out)).mono ?_
            rw [HEQ.out]
            rintro e w15 ⟨rfl, hb15⟩
            try clear zA cA dA
            try clear zV cV dV
            try clear zP cP dP
            replace HB := Lib.hid (HB.out.trans (hb15.mono HB.out.size))
            replace HA := Lib.hid (HA.out.below hb15)
            replace HV := Lib.hid (HV.out.below hb15)
            replace HP := Lib.hid (HP.out.below hb15)
            replace HR := Lib.hid (HR.out.below hb15)
            replace HE := Lib.hid (HE.out.below hb15)
            replace HG := Lib.hid (HG.out.below hb15)
            have ⟨zA, cA, dA⟩ := HA.out
            have ⟨zV, cV, dV⟩ := HV.out
            have ⟨zP, cP, dP⟩ := HP.out
            clear hb15
            go_wp2_with fail
            clear HG HP
            rw [HKL.out]
            go_loopw [145] (fun i wr => ∃ k : Nat, k ≤ xs.length ∧ i = .int .i64 k ∧ Below w15.heap.size w15 wr) (fun i _ => xs.length - (intOf i).toNat)
            case atStart => exact ⟨0, Nat.zero_le _, rfl, Below.refl _ _⟩
            case round =>
              obtain ⟨k, hk, rfl, hb⟩ := hrel
              by_cases hlt : k < xs.length
              · have k1 : (k : Int) < (xs.length : Int) := by omega
                have HK1 := Lib.hid hb
                have ⟨zV1, cV1, dV1⟩ := HV.out.below hb
                clear hb
                rw [HKL.out] at dV1
                go_wp2_with fail
                go_loopw [151] (fun i wr => ∃ j : Nat, j ≤ xs.length ∧ i = .int .i64 j ∧ Below w15.heap.size w15 wr) (fun i _ => xs.length - (intOf i).toNat)
                case atStart => exact ⟨0, Nat.zero_le _, rfl, HK1.out⟩
                case round =>
                  obtain ⟨j, hj, rfl, hb⟩ := hrel
                  by_cases hjt : j < xs.length
                  · have j1 : (j : Int) < (xs.length : Int) := by omega
                    have HK2 := Lib.hid hb
                    have ⟨zV2, cV2, dV2⟩ := HV.out.below hb
                    rw [HKL.out] at dV2
                    obtain ⟨b1, o1, rfl, hbl1, hc1⟩ := (HE.out.below hb).cell k (by rw [HKL.out]; exact hlt)
                    have hq := relB_p HKR.out
                    have hlk : k < K.length := by rw [HKL.out]; exact hlt
                    have h0 := hq.pos k hlk
                    have h9 := hq.small k hlk
                    have HP := Lib.hid (fun W => pIn_any (nth K k) (j : Int) W h0 (by omega) (by omega))
                    have hww := HWR.out k j hlt hjt
                    have HEE := Lib.hid (HE.out.below hb)
                    clear hb hq
                    cases hbt : hasB (nth K k) (j : Int)
                    · rw [hbt] at HP
                      go_wp2_with fail
                      refine (HP.out _).mono ?_
                      rintro e w' ⟨rfl, rfl⟩
                      go_wp2_with fail
                      go_roundw
                      case rel => exact ⟨j + 1, by omega, by go_num, HK2.out⟩
                      case measure => simp [intOf]; omega
                    · have HWW := Lib.hid (hww hbt)
                      rw [hbt] at HP
                      have hys : (K.set k (nth K k - 2 ^ j)).length = xs.length := by rw [List.length_set]; exact HKL.out
                      have HYS := Lib.hid hys
                      clear hww hys hbt
                      go_wp2_with fail
                      refine (HP.out _).mono ?_
                      rintro e w' ⟨rfl, rfl⟩
                      go_wp2_with fail
                      obtain ⟨i0, hi, hz0, hz1, hz2⟩ := info_parts infoInt
                      go_cut [23] (fun s wx => LessP wr wx (xs.length : Int) K s)
                      case first =>
                        have hvx := HV.out.below HK2.out
                        rw [HKL.out] at hvx
                        have HVX := Lib.hid hvx
                        clear hvx
                        go_region_held3 (fun w' => w'.cell? ⟨w6.heap.size, 0, none⟩ = some (.int .i64 (xs.length : Int)) ∧ w'.cell? ⟨w6.heap.size, 1, none⟩ = some (.slice (some ⟨b1, o1, none⟩) xs.length c6))
                          (first | exact ⟨((QV7.set (p := ⟨wr.heap.size + 1, 0, none⟩) _ (show w6.heap.size ≠ wr.heap.size + 1 by omega)).set (p := ⟨wr.heap.size + 1, 1, none⟩) _ (show w6.heap.size ≠ wr.heap.size + 1 by omega)).2.1, ((QV7.set (p := ⟨wr.heap.size + 1, 0, none⟩) _ (show w6.heap.size ≠ wr.heap.size + 1 by omega)).set (p := ⟨wr.heap.size + 1, 1, none⟩) _ (show w6.heap.size ≠ wr.heap.size + 1 by omega)).2.2⟩ | exact ⟨((QV7.set (p := ⟨wr.heap.size, 0, none⟩) _ (show w6.heap.size ≠ wr.heap.size by omega)).set (p := ⟨wr.heap.size, 1, none⟩) _ (show w6.heap.size ≠ wr.heap.size by omega)).2.1, ((QV7.set (p := ⟨wr.heap.size, 0, none⟩) _ (show w6.heap.size ≠ wr.heap.size by omega)).set (p := ⟨wr.heap.size, 1, none⟩) _ (show w6.heap.size ≠ wr.heap.size by omega)).2.2⟩ | exact ⟨QV7.2.1, QV7.2.2⟩ | exact ⟨(QV7.below ((Below.refl _ _).alloc (Nat.le_refl _) _)).2.1, (QV7.below ((Below.refl _ _).alloc (Nat.le_refl _) _)).2.2⟩ | exact ⟨(HVX.out.below ((Below.refl _ _).alloc (Nat.le_refl _) _).drew).2.1, (HVX.out.below ((Below.refl _ _).alloc (Nat.le_refl _) _).drew).2.2⟩ | exact ⟨(HVX.out.below (((Below.refl _ _).alloc (Nat.le_refl _) _).alloc (by simp) _).drew).2.1, (HVX.out.below (((Below.refl _ _).alloc (Nat.le_refl _) _).alloc (by simp) _).drew).2.2⟩ | go_keep)
                          (first | (refine step_append_lies _ (by rfl) _ _ _ (by rfl) wr.heap.size 3 i0 (.int .i64 0) 1 8 Try.underlying24 hi hz0 hz1 hz2 rfl (by decide) (.slice (some ⟨wr.heap.size, 0, none⟩) 0 0) 0 [] (by rfl) (by with_reducible exact less_1 wr) ⟨b1, o1, none⟩ K.length c6 (K.map (Value.int .i64)) (by simp [Act.eval, Act.put, HKL.out]) (by simp) (rd_news ((HEE.out.alloc _).below (Below.refl _ _).drew)) (ints_one K) (by rw [HKL.out]; omega) (by rw [HKL.out]; unfold maxLen; omega) (by rw [HKL.out]; omega) (by first | (simp; done) | (simp; omega)) _ rfl ?_; intro g7 c7' w7 ho7 hg7 hat7 hlt7; have b7 := less_b1 hg7; have o7 := less_own ho7; rw [Nat.zero_add] at o7 ⊢; have QV7 := HVX.out.below b7; have ⟨zV7, cV7, dV7⟩ := QV7; clear ho7 hg7 hlt7) | (refine step_append_lies _ (by rfl) _ _ _ (by rfl) wr.heap.size 3 i0 (.int .i64 0) 1 8 Try.underlying24 hi hz0 hz1 hz2 rfl (by decide) (.slice (some ⟨wr.heap.size, 0, none⟩) 0 0) 0 [] (by rfl) (by with_reducible exact less_2 wr) ⟨b1, o1, none⟩ K.length c6 (K.map (Value.int .i64)) (by simp [Act.eval, Act.put, HKL.out]) (by simp) (rd_news (((HEE.out.alloc _).alloc _).below (Below.refl _ _).drew)) (ints_one K) (by rw [HKL.out]; omega) (by rw [HKL.out]; unfold maxLen; omega) (by rw [HKL.out]; omega) (by first | (simp; done) | (simp; omega)) _ rfl ?_; intro g7 c7' w7 ho7 hg7 hat7 hlt7; have ⟨b7, VB7⟩ := less_b2 hg7; have ⟨⟨zB7, cB7, dB7⟩, fB7, gB7⟩ := VB7; have o7 := less_own ho7; rw [Nat.zero_add] at o7 ⊢; have QV7 := HVX.out.below b7; have ⟨zV7, cV7, dV7⟩ := QV7; clear ho7 hg7 hlt7) | (refine step_append_lies _ (by rfl) _ _ _ (by rfl) wr.heap.size 3 i0 (.int .i64 0) 1 8 Try.underlying24 hi hz0 hz1 hz2 rfl (by decide) (.slice (some ⟨wr.heap.size + 1, 0, none⟩) 0 0) 0 [] (by rfl) (by with_reducible exact less_3 wr) ⟨b1, o1, none⟩ K.length c6 (K.map (Value.int .i64)) (by simp [Act.eval, Act.put, HKL.out]) (by simp) (rd_news (((HEE.out.alloc _).alloc _).below (Below.refl _ _).drew)) (ints_one K) (by rw [HKL.out]; omega) (by rw [HKL.out]; unfold maxLen; omega) (by rw [HKL.out]; omega) (by first | (simp; done) | (simp; omega)) _ rfl ?_; intro g7 c7' w7 ho7 hg7 hat7 hlt7; have ⟨b7, VB7⟩ := less_b3 hg7; have ⟨⟨zB7, cB7, dB7⟩, fB7, gB7⟩ := VB7; have o7 := less_own ho7; rw [Nat.zero_add] at o7 ⊢; have QV7 := HVX.out.below b7; have ⟨zV7, cV7, dV7⟩ := QV7; clear ho7 hg7 hlt7))
                        all_goals go_wp2_with fail
                        all_goals go_meet
                        all_goals first | exact less_new o7 b7 | exact less_set o7 b7 VB7 (by omega) (fun g e => by simp only [Value.ownBlock, Option.some.injEq, World.size_drew, World.size_alloc] at e hat7; omega)
                      case rest =>
                        rename World => wx
                        obtain ⟨pb, a7, c7', rfl, hpb, VP, o7, hne7, b7⟩ := hcut
                        obtain ⟨g7, rfl, hg7, hg7'⟩ := o7.head (by rw [HKL.out]; omega)
                        have ⟨ck7, fk7⟩ := o7.at' rfl hlk
                        have b7' := HK2.out.trans (b7.mono HK2.out.size)
                        have ⟨⟨zP, cP, dP⟩, fP, gP⟩ := VP
                        rw [HKL.out] at dP
                        have h10 := pow_small (q := j) (by omega)
                        have hle : (2 : Int) ^ j ≤ nth K k := by
                          have h1 := HWW.out.1
                          have h2 := (relB_p h1).pos k (by rw [HYS.out]; exact hlt)
                          rw [nth_set hlk, if_pos rfl] at h2
                          omega
                        have hw9 : IntKind.i64.wrap (nth K k - 2 ^ j) = nth K k - 2 ^ j := wrap64_small _ (by omega) (by omega)
                        obtain ⟨K', hK'⟩ : ∃ K', K' = K.set k (nth K k - 2 ^ j) := ⟨_, rfl⟩
                        have HKK := HWW.out
                        have HYY := HYS.out
                        rw [← hK'] at HKK HYY
                        obtain ⟨wy, hwy⟩ : ∃ x : World, x = (wx.setCell ⟨g7, k, none⟩ (.int .i64 (nth K k - 2 ^ j))).drew := ⟨_, rfl⟩
                        have HOP : Hid (Rd wy (some ⟨g7, 0, none⟩) K' ∧ Box2 wy pb (.int .i64 (xs.length : Int)) (.slice (some ⟨g7, 0, none⟩) xs.length c7') ∧ Below w15.heap.size w15 wy) := by
                          have hgp := hne7 g7 rfl
                          have o8 := ((o7.put rfl k (nth K k - 2 ^ j)).1.below (Below.refl _ _).drew (Nat.le_refl _))
                          have v8 := ((VP.1.set (p := ⟨g7, k, none⟩) (.int .i64 (nth K k - 2 ^ j)) (show pb ≠ g7 from fun e => hgp e.symm)).below (Below.refl _ _).drew)
                          rw [HKL.out] at v8
                          rw [hwy, hK']
                          exact ⟨o8.rd, v8, Below.drew (b7'.setCell (p := ⟨g7, k, none⟩) (show w15.heap.size ≤ g7 by have := HK2.out.size; omega) _)⟩
                        have HCW : Hid (∀ W, Rd W (some ⟨g7, 0, none⟩) K' → Calls Try.prog 21 #[.agg #[.int .i64 (xs.length : Int), .slice (some ⟨g7, 0, none⟩) xs.length c7']] W fun e w' => ∃ a' c', e = .returned (.tuple #[.agg #[.int .i64 (xs.length : Int), .slice a' xs.length c'], .bool true]) ∧ OwnI w' W.heap.size (.slice a' xs.length c') (clo K') ∧ Below W.heap.size W w') := fun W h => by
                          have h1 := iCloseRelation_any (xs.length : Int) (some ⟨g7, 0, none⟩) K' c7' W hnn h
                          unfold GotO at h1
                          rw [cloN, cloL, HKK.1, if_pos rfl, if_pos rfl, show clAll K' K'.length = clo K' from rfl, clo_len, HYY] at h1
                          exact h1
                        have hcr := relB_p (clo_rel HKK.1)
                        have hcl : (clo K').length = xs.length := by rw [clo_len]; exact HYY
                        have c0 := hcr.pos k (by rw [hcl]; exact hlt)
                        have c9 := hcr.small k (by rw [hcl]; exact hlt)
                        have HPZ : Hid (∀ W, Calls Try.prog 18 #[.int .i64 (nth (clo K') k), .int .i64 (j : Int)] W fun e w' => e = .returned (.bool false) ∧ W = w') := fun W => by
                          have := pIn_any (nth (clo K') k) (j : Int) W c0 (by omega) (by omega)
                          rw [HKK.2] at this
                          exact this
                        have HCL2 := Lib.hid hcl
                        have HWY := Lib.hid hwy
                        clear o7 hne7 b7 b7' VP hwy hK' HKK HYY hcr hcl c0 c9 HWW HYS HEE HWR HP HKR HKC
                        go_wp2_with fail
                        go_region
                        rw [← HWY.out]
                        have ⟨zP, cP2, dP2⟩ := HOP.out.2.1
                        clear cP dP ck7 fk7 fP gP
                        go_wp2_with fail
                        refine (HCW.out _ HOP.out.1).mono ?_
                        rintro e wz ⟨az, cz, rfl, hoz, hbz⟩
                        have HTZ := Lib.hid (HOP.out.2.2.trans (hbz.mono HOP.out.2.2.size))
                        have hrz := hoz.rd
                        obtain ⟨bz, oz, rfl, hblz, hcz⟩ := hrz.cell k (by rw [HCL2.out]; exact hlt)
                        generalize nth (clo K') k = zz at hcz HPZ
                        clear hbz hoz hrz cP2 dP2 zP HCW HOP
                        go_wp2_with fail
                        refine (HPZ.out _).mono ?_
                        rintro e w' ⟨rfl, rfl⟩
                        go_wp2_with fail
                        go_roundw
                        case rel => exact ⟨j + 1, by omega, by go_num, HTZ.out.alloc HTZ.out.size _⟩
                        case measure => simp [intOf]; omega
                  · obtain rfl : j = xs.length := by omega
                    have HK2 := Lib.hid hb
                    clear hb
                    go_wp2_with fail
                    go_roundw
                    case rel => exact ⟨k + 1, by omega, by go_num, HK2.out⟩
                    case measure => simp [intOf]; omega
              · obtain rfl : k = xs.length := by omega
                go_wp2_with fail
                go_ret
                exact ⟨rfl, HB.out.trans (hb.mono HB.out.size)⟩

theorem rd_of_trod {H : Type} {enc : TypeId × Value → H} {W : World} {fuel : Nat} {c : Value} {y : DataW H × List MemPlace}
    (h : DataW.trod enc Try.prog W 0 (fun _ => true) true fuel 24 [c] = some y) : ∃ (a : Option Addr) (xs : List Int) (cap : Nat), c = .slice a xs.length cap ∧ Rd W a xs ∧ ∀ k, k < xs.length → (Lit.int .i64 (nth xs k)).wf = true := by
  rcases Go.ChangeShapes.open_ints Try.underlying24 Try.underlying3 (by kernel_rfl) h with ⟨hcs, _⟩ | ⟨x, len, cap, zs, hcs, _, hl, hm, hz, _, hcell, hwf⟩
  · simp only [List.cons.injEq, and_true] at hcs
    exact ⟨none, [], 0, hcs, ⟨by simp, fun k hk => by simp at hk⟩, fun k hk => by simp at hk⟩
  · simp only [List.cons.injEq, and_true] at hcs
    simp only [if_true] at hz
    have hlen : (zs.take len).length = len := by rw [List.length_take]; omega
    have hn : ∀ k, k < len → nth (zs.take len) k = zs.getD k 0 := by
      intro k hk
      simp only [nth, List.getD_eq_getElem?_getD, List.getElem?_take, hk, if_true]
    refine ⟨some x, zs.take len, cap, by rw [hlen]; exact hcs, ⟨by rw [hlen]; unfold maxLen at hm; omega, fun k hk => ?_⟩, fun k hk => ?_⟩
    · rw [hlen] at hk
      obtain ⟨b, off, sp⟩ := x
      have h0 := hcell 0 (by omega)
      have hsp : sp = none := by simpa [Addr.add] using World.cell?_spot h0
      subst hsp
      have hk' := hcell k (by omega)
      rw [Addr.add_lit] at hk'
      exact ⟨b, off, rfl, World.block_lt_of_cell? _ _ h0, by rw [hk', hn k hk]⟩
    · rw [hlen] at hk
      rw [hn k hk]
      have hk2 : k < zs.length := by omega
      exact hwf _ (by rw [List.getD_eq_getElem?_getD, List.getElem?_eq_getElem hk2]; exact List.getElem_mem hk2)

theorem own : ownKnob Try.prog.godebug = none := by kernel_rfl
theorem laidOut : laidOutB Try.prog = true := by kernel_rfl
theorem wf_bd {n : Int} (h : (Lit.int .i64 n).wf = true) : -9223372036854775808 ≤ n ∧ n ≤ 9223372036854775807 := by
  simp [Lit.wf, IntKind.min, IntKind.max, IntKind.bits, IntKind.signed] at h
  omega

theorem wf_byte {n : Int} (h : (Lit.int .u8 n).wf = true) : 0 ≤ n ∧ n ≤ 255 := by
  simp [Lit.wf, IntKind.min, IntKind.max, IntKind.bits, IntKind.signed] at h
  omega
/-- a slice of bytes that was handed over -/
theorem rdB_of_trod {H : Type} {enc : TypeId × Value → H} {W : World} {fuel : Nat} {c : Value} {y : DataW H × List MemPlace}
    (h : DataW.trod enc Try.prog W 0 (fun _ => true) true fuel 22 [c] = some y) : ∃ (a : Option Addr) (n cap : Nat), c = .slice a n cap ∧ RdB W a n ∧ n ≤ 9223372036854775807 := by
  rcases Go.ChangeShapes.open_ints Try.underlying22 Try.underlying5 (by kernel_rfl) h with ⟨hcs, _⟩ | ⟨x, len, cap, zs, hcs, _, hl, hm, hz, _, hcell, hwf⟩
  · simp only [List.cons.injEq, and_true] at hcs
    exact ⟨none, 0, 0, hcs, ⟨fun k hk => by omega⟩, by omega⟩
  · simp only [List.cons.injEq, and_true] at hcs
    simp only [if_true] at hz
    refine ⟨some x, len, cap, hcs, ⟨fun k hk => ?_⟩, by unfold maxLen at hm; omega⟩
    obtain ⟨b, off, sp⟩ := x
    have h0 := hcell 0 (by omega)
    have hsp : sp = none := by simpa [Addr.add] using World.cell?_spot h0
    subst hsp
    have hk' := hcell k (by omega)
    rw [Addr.add_lit] at hk'
    have hk2 : k < zs.length := by omega
    have hw := hwf _ (show zs.getD k 0 ∈ zs by rw [List.getD_eq_getElem?_getD, List.getElem?_eq_getElem hk2]; exact List.getElem_mem hk2)
    refine ⟨b, off, rfl, World.block_lt_of_cell? _ _ h0, zs.getD k 0, hk', ?_⟩
    exact wf_byte hw

open Go.ChangeShapes Go.WideShapes Go.ChangeAt Go.RowKit in
set_option maxRecDepth 100000 in
theorem lifted (os : Os) (started : os.Started) (H : Type) (enc : TypeId × Value → H) :
    ReturnsInHanded {} Try.checked os 4 .any (Rows.fnClosuresSpec.pre6 enc Try.prog Try.f4 Rows.fnClosuresRow.domain false) (Rows.fnClosuresSpec.post enc Try.prog Try.f4 false true false false) := by
  refine returnsInHanded_of_change (C := Try.checked) own started (by kernel_rfl) Try.func4
    (ChangeSpec.witness6 (enc := enc) (C := Try.checked) false ⟨#[], #[.slice none 0 0, .slice none 0 0], []⟩ 8 (by kernel_rfl) (by kernel_rfl) (by kernel_rfl) (by kernel_rfl)) ?_
  intro W base args ds gs before hval0 hW hcnd _
  have hval : ∀ (j : Nat) t v, Try.f4.params[j]? = some t → args[j]? = some v → Value.okWide Try.prog W .any base t v := hval0
  have hW' := hW
  obtain ⟨p, q, hA0, hV, rfl, hfz, hnd⟩ := hW
  have hA : DataW.TrodAll enc Try.prog W 0 (fun _ => true) true Try.f4.params.toList args.toList ds p := hA0
  rw [Try.params4] at hA hval
  obtain ⟨v0, vs0, d0, ds0, p0, q0, hargs, rfl, rfl, h0, r0⟩ := trodAll_cons hA
  obtain ⟨v1, vs1, d1, ds1, p1, q1, rfl, rfl, rfl, h1, r1⟩ := trodAll_cons r0
  obtain ⟨rfl, rfl, rfl⟩ := trodAll_nil r1
  obtain rfl : args = #[v0, v1] := by cases args; simp_all
  obtain ⟨rfl, rfl⟩ := trodVars_none hV
  have lt0 : ∀ x ∈ p0, x.block < W.heap.size := by obtain ⟨m, hm⟩ := h0; exact DataW.trod_lt m _ _ _ hm
  have lt1 : ∀ x ∈ p1, x.block < W.heap.size := by obtain ⟨m, hm⟩ := h1; exact DataW.trod_lt m _ _ _ hm
  obtain ⟨a0, len0, cap0, rfl⟩ := okWide_slice Try.underlying22 (hval 0 22 v0 rfl rfl)
  obtain ⟨a0, n0, cap0, e0, rd0, ln0⟩ := (by obtain ⟨fu, hf⟩ := h0; simp only [Value.cells] at hf; exact rdB_of_trod hf : ∃ (a : Option Addr) (n cap : Nat), Value.slice a0 len0 cap0 = .slice a n cap ∧ RdB W a n ∧ n ≤ 9223372036854775807)
  simp only [Value.slice.injEq] at e0
  obtain ⟨rfl, rfl, rfl⟩ := e0
  obtain ⟨a1, len1, cap1, rfl⟩ := okWide_slice Try.underlying22 (hval 1 22 v1 rfl rfl)
  obtain ⟨a1, n1, cap1, e1, rd1, ln1⟩ := (by obtain ⟨fu, hf⟩ := h1; simp only [Value.cells] at hf; exact rdB_of_trod hf : ∃ (a : Option Addr) (n cap : Nat), Value.slice a1 len1 cap1 = .slice a n cap ∧ RdB W a n ∧ n ≤ 9223372036854775807)
  simp only [Value.slice.injEq] at e1
  obtain ⟨rfl, rfl, rfl⟩ := e1
  clear hA0 hval0
  refine (walk a0 len0 cap0 a1 len1 cap1 W rd0 ln0 rd1 ln1).mono fun e W' ⟨he, bel⟩ => ?_
  subst he
  exact ⟨_, rfl, _, _, _, [], _, [], hW', trodAll_mk1 (shut_bool Try.underlying4 _), (trodAll_cons_mk (Below.trod laidOut (by kernel_rfl) (of_decide_eq_true (by kernel_rfl)) h0 bel lt0) (trodAll_cons_mk (Below.trod laidOut (by kernel_rfl) (of_decide_eq_true (by kernel_rfl)) h1 bel lt1) trodAll_mk0)), rfl, bel.frame _, fun h => by cases h⟩
theorem proved : Rows.FnClosuresSaid :=
  OpenClaim.holds_of_wide 4 Try.f4 rfl rfl rfl rfl rfl rfl rfl ⟨rfl, rfl, rfl, rfl, rfl⟩ rfl rfl rfl rfl rfl (by kernel_rfl) Try.func4 (by kernel_rfl)
    (of_decide_eq_true (by kernel_rfl)) (by unfold Func.isWrapper; first | (rw [if_pos (by decide +kernel)]; kernel_rfl) | (rw [if_neg (by decide +kernel)]; exact ⟨rfl, rfl⟩))
    (fun os started H enc _ => lifted os started H enc)

end Go.Proofs.Ytjddjfckflgojaa.closures
