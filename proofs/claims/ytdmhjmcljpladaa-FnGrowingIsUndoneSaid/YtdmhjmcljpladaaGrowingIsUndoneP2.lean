/- A part of the proof of YtdmhjmcljpladaaGrowingIsUndone: contracts of functions. -/
import Derived.Test.YtdmhjmcljpladaaRows
import Derived.WalkKit
import Derived.WalkSpells
import Derived.WalkLawsBesides
import Derived.Deep.QuietTactic
import Derived.BigQuiet
import Derived.ProofKit
import Derived.OpenShut
import Derived.ShutString
import Derived.ChangeOld
import Derived.Below
import Derived.Lib.SmallJoins
import Derived.Lib.Hide
import Derived.Maps.AppendAt
import Derived.Deep.AppendLies
import Derived.Shelf.Small.Bits
import Derived.Shelf.Small.Wraps
import Derived.Shelf.Strconv.Itoa0
import Derived.Shelf.Sort.Plain
import Derived.Shelf.Slices.Reverse
import Derived.Shelf.Slices.Equal
import Derived.Shelf.Slices.CompactI
import Derived.Shelf.Slices.Delete
import Derived.Shelf.Slices.Cells
import Derived.Shelf.Slices.In.SortNone
import Derived.Shelf.Slices.Empties2
import Derived.Sort.OwnSortedInts
import Derived.Lib.SliceRun
import Derived.Deep.RegionLaw
import Derived.Deep.RegionHeld3
import Derived.Deep.DeepCutAuto
import Derived.StillTail
import Derived.Shelf.Spec.SlicesInsertGrow
import Derived.Test.YtdmhjmcljpladaaGrowingIsUndoneP1
namespace Go.Proofs.Ytdmhjmcljpladaa.growingIsUndone
open Go Go.RowKit
set_option linter.unusedVariables false
set_option linter.unusedSimpArgs false
set_option maxHeartbeats 400000
open Go.Shelf
theorem nth_snoc_end (l : List Int) (x : Int) : nth (l ++ [x]) l.length = x := by
  simp [nth, List.getD_eq_getElem?_getD]
theorem ptG_at {xs ys l : List Int} {i : Nat} {k : Nat} (h : k < l.length) : ptG xs ys (l ++ [(i : Int)]) k = ((hasB (nth xs (nth l k).toNat) (i : Int) == hasB (nth ys k) (l.length : Int)) && (hasB (nth xs i) (nth l k) == hasB (nth ys l.length) (k : Int))) := by
  simp only [ptG, List.length_append, List.length_singleton, Nat.add_sub_cancel, nth_snoc_end, nth_snoc_lt h, Int.toNat_natCast]
theorem ptG_end {xs ys l : List Int} {i : Nat} : ptG xs ys (l ++ [(i : Int)]) l.length = (hasB (nth xs i) (i : Int) == hasB (nth ys l.length) (l.length : Int)) := by
  simp only [ptG, List.length_append, List.length_singleton, Nat.add_sub_cancel, nth_snoc_end, Int.toNat_natCast, Bool.and_self]
theorem ptW_snoc {xs ys l : List Int} {i : Nat} : ptW xs ys (l ++ [(i : Int)]) = true ↔ (∀ k, k < l.length → ptG xs ys (l ++ [(i : Int)]) k = true) ∧ (hasB (nth xs i) (i : Int) == hasB (nth ys l.length) (l.length : Int)) = true := by
  rw [ptW_iff, ← ptG_end]
  constructor
  · intro h
    exact ⟨fun k hk => h k (by simp; omega), h _ (by simp)⟩
  · rintro ⟨h1, h2⟩ a ha
    rw [List.length_append, List.length_singleton] at ha
    by_cases e : a = l.length
    · rw [e]; exact h2
    · exact h1 a (by omega)

theorem Var2.drawn {w w' : World} {p b : Nat} {u v : Value} (h : Var2 w b u v) (hd : Drawn w w' p) (hne : b ≠ p) : Var2 w' b u v := h.kept hd (by simpa using hne)
theorem OwnI.drawn {w w' : World} {p B : Nat} {v : Value} {xs : List Int} (h : OwnI w B v xs) (hd : Drawn w w' p) (hp : p < B) : OwnI w' B v xs :=
  h.kept hd (by
    cases e : v.ownBlock with
    | none => exact .inl rfl
    | some c => exact .inr (by have := (h.lt c e).1; simp; omega))
theorem Drawn.grown {w w1 w2 : World} {p : Nat} {v : Value} (h : Drawn w w1 p) (hg : w1.grownBy w2 v.ownBlock) (hB : ∀ c, v.ownBlock = some c → w.heap.size ≤ c) : Drawn w w2 p :=
  ⟨hg.os.trans h.os, hg.tape.trans h.tape, hg.output.trans h.output, Nat.le_trans h.size hg.size, fun k hk hn => (hg.block k (by have := h.size; omega) (fun e => by have := hB k e.symm; omega)).trans (h.block k hk hn)⟩
theorem Drawn.set {w w1 : World} {p : Nat} (h : Drawn w w1 p) (a : Addr) (u : Value) (ha : w.heap.size ≤ a.block) : Drawn w (w1.setCell a u) p :=
  ⟨h.os, h.tape, h.output, by simpa using h.size, fun k hk hn => (Below.heap_setCell w1 a u k (by omega)).trans (h.block k hk hn)⟩
/-- a length that is kept in a block's second cell -/
def lenAt (w : World) (b : Nat) : Nat := match w.cell? ⟨b, 1, none⟩ with | some (.slice _ k _) => k | _ => 0
theorem lenAt_of {w : World} {b k c : Nat} {u : Value} {a : Option Addr} (h : Var2 w b u (.slice a k c)) : lenAt w b = k := by simp [lenAt, h.1.2.2]
set_option maxRecDepth 100000 in
theorem relation_any (p L m : Nat) (w : World) (h : Cur w p L) (hL : L ≤ 800000000) (hm : m ≤ 10) :
    Calls Try.prog 161 #[.pointer (some ⟨p, 0, none⟩), .int .i64 (m : Int)] w fun e w' => ∃ a cap xs, e = .returned (.agg #[.int .i64 (xs.length : Int), .slice a xs.length cap]) ∧ OwnI w' w.heap.size (.slice a xs.length cap) xs ∧ xs.length ≤ m ∧ (∀ k, k < xs.length → 0 ≤ nth xs k ∧ nth xs k < 1024) ∧ Cur w' p (L + 300) ∧ Drawn w w' p := by
  have hpw := h.lt
  have ha : Below w.heap.size w (w.alloc (.cells #[.int .i64 0, .slice none 0 0] 28)) := (by repeat (first | exact Below.refl _ _ | assumption | refine Below.alloc ?_ (by first | exact Nat.le_refl _ | (simp only [World.size_alloc, World.size_setCell, World.size_drew]; omega) | omega) _ | refine Below.setCell ?_ (by first | exact Nat.le_refl _ | (simp only [World.size_alloc, World.size_setCell, World.size_drew]; omega) | omega) _ | refine Below.drew ?_))
  have H := Lib.hid (h.below ha)
  have HR := Lib.hid (Var2.new w (.int .i64 0) (.slice none 0 0) 28)
  clear h
  go_enter Try.func161, Try.ntmps161
  go_wp2_with fail
  refine (pick_any p L ((m : Int) + 1) _ H.out (by omega) (by omega)).mono ?_
  rintro e w1 ⟨r, rfl, hr0, hr1, hc1, hd1⟩
  obtain ⟨n, rfl⟩ := Int.eq_ofNat_of_zero_le hr0
  have hn : n ≤ m := by omega
  have hs1 : w.heap.size + 1 ≤ w1.heap.size := by have := hd1.size; simpa using this
  have HC1 := Lib.hid hc1
  have HD1 := Lib.hid hd1
  clear hc1 hd1 hr0 hr1
  go_wp2_with fail
  have HB1 := Lib.hid (Var2.new w1 (.int .i64 (n : Int)) (.slice none 0 0) 28)
  have HR1 := Lib.hid ((HR.out.drawn HD1.out (by omega)).alloc (.cells #[.int .i64 (n : Int), .slice none 0 0] 28))
  have HC2 := Lib.hid (HC1.out.below ((Below.refl w1.heap.size w1).alloc (Nat.le_refl _) (.cells #[.int .i64 (n : Int), .slice none 0 0] 28)))
  go_loopw [6, 7] (fun _ _ wr => ∃ (a : Option Addr) (cap : Nat) (xs : List Int), xs.length ≤ n ∧ Var2 wr w1.heap.size (.int .i64 (n : Int)) (.slice a xs.length cap) ∧ OwnI wr (w1.heap.size + 1) (.slice a xs.length cap) xs ∧ (∀ k, k < xs.length → 0 ≤ nth xs k ∧ nth xs k < 1024) ∧ Cur wr p (L + 2 + 20 * xs.length) ∧ Var2 wr w.heap.size (.int .i64 0) (.slice none 0 0) ∧ Drawn w wr p) (fun _ _ wr => n - lenAt wr w1.heap.size)
  case atStart => exact ⟨none, 0, [], by simp, HB1.out, OwnI.nil _ _, fun k hk => by simp at hk, HC2.out.mono (by simp), HR1.out, HD1.out.of_alloc.alloc _⟩
  case round =>
    obtain ⟨a, cap, xs, hk, hV, ho, hx, hc, hR, hd⟩ := hrel
    have hds := hd.size
    have ⟨⟨zV, cV, dV⟩, fV, gV⟩ := hV
    by_cases hlt : xs.length < n
    · have k1 : (xs.length : Int) < (n : Int) := by omega
      have HV := Lib.hid hV
      have HO := Lib.hid ho
      have HX := Lib.hid hx
      have HC := Lib.hid hc
      have HR := Lib.hid hR
      have HD := Lib.hid hd
      obtain ⟨W1, hW1⟩ : ∃ x : World, x = wr := ⟨_, rfl⟩
      subst hW1
      clear hV ho hx hc hR hd
      go_wp2_with fail
      go_loopw [6, 7] (fun s j wr => ∃ (k S : Nat), k ≤ n ∧ j = .int .i64 k ∧ s = .int .i64 (S : Int) ∧ S < 2 ^ k ∧ Cur wr p (L + 2 + 20 * xs.length + 2 * k) ∧ Drawn W1 wr p) (fun _ j _ => n - (intOf j).toNat)
      case atStart => exact ⟨0, 0, by omega, rfl, rfl, by simp, HC.out, Drawn.refl _ _⟩
      case round =>
        obtain ⟨k, S, hk2, rfl, rfl, hS, hc2, hd2⟩ := hrel
        have hds2 := hd2.size
        have hV2 := HV.out.drawn hd2 (by omega)
        have ⟨⟨zV2, cV2, dV2⟩, fV2, gV2⟩ := hV2
        by_cases hlt2 : k < n
        · have k2 : (k : Int) < (n : Int) := by omega
          have HC2 := Lib.hid hc2
          have HD2 := Lib.hid hd2
          clear hc2 hd2 hV2
          go_wp2_with fail
          refine (one_any p (L + 2 + 20 * xs.length + 2 * k) 4 _ HC2.out (by omega) (by omega)).mono ?_
          rintro e w3 ⟨he, hc3, hd3⟩
          have HC3 := Lib.hid hc3
          have HD3 := Lib.hid (HD2.out.trans hd3)
          have hsb : S < 4611686018427387904 := by
            have : 2 ^ k ≤ 2 ^ 10 := Nat.pow_le_pow_right (by omega) (by omega)
            omega
          have hor := Lib.hid (or_bit (b := S) (k := k) hsb (by omega))
          have h2k : (2 : Nat) ^ k < 2 ^ (k + 1) := two_lt (by omega)
          have hS1 : S ||| 2 ^ k < 2 ^ (k + 1) := or_lt (by omega) h2k
          have hS0 : S < 2 ^ (k + 1) := by omega
          clear hc3 hd3
          rcases he with rfl | rfl
          · go_wp2_with fail
            go_roundw
            case rel => exact ⟨k + 1, S ||| 2 ^ k, by omega, by go_num, val_int hor.out, hS1, HC3.out.mono (by omega), HD3.out⟩
            case measure => simp [intOf]; omega
          · go_wp2_with fail
            go_roundw
            case rel => exact ⟨k + 1, S, by omega, by go_num, rfl, hS0, HC3.out.mono (by omega), HD3.out⟩
            case measure => simp [intOf]; omega
        · obtain rfl : k = n := by omega
          have HO2 := Lib.hid (HO.out.drawn hd2 (by omega))
          have HC2 := Lib.hid hc2
          have HD2 := Lib.hid hd2
          have HV2 := Lib.hid hV2
          clear hc2 hd2 hV2
          have hlo := HO2.out.lt
          have HLO := Lib.hid hlo
          have hWs : w1.heap.size + 1 ≤ wr.heap.size := by omega
          clear hlo
          go_wp2_with (at_builtin; refine push_at (v := .slice a xs.length cap) (z := (S : Int)) rfl _ _ rfl rfl HO2.out rfl (by omega) hWs ?_; intro v7 w7 o7 hg7 hat7; revert hat7)
          intro hat7
          have hV7 := HV2.out.kept hg7 (ne_own (fun c e => by have := (HLO.out c e).1; omega))
          have ⟨⟨zV7, cV7, dV7⟩, fV7, gV7⟩ := hV7
          obtain ⟨av7, cv7, ev7⟩ := o7.form
          subst ev7
          rw [show (xs ++ [(S : Int)]).length = xs.length + 1 by simp] at o7 ⊢
          have hc7 := HC2.out.kept hg7 (fun g e => by have := (HLO.out g e).1; omega)
          have hR7 := ((HR.out.drawn HD2.out (by omega)).kept hg7 (ne_own (fun c e => by have := (HLO.out c e).1; omega)))
          have hd7 := (HD.out.trans HD2.out).grown hg7 (fun c e => by have := (HLO.out c e).1; omega)
          have H7 := Lib.hid (And.intro (hV7.set1 (.slice av7 (xs.length + 1) cv7)) (And.intro (o7.setBelow (p := ⟨w1.heap.size, 1, none⟩) (show w1.heap.size < w1.heap.size + 1 by omega) (.slice av7 (xs.length + 1) cv7)) (And.intro (hc7.set ⟨w1.heap.size, 1, none⟩ (.slice av7 (xs.length + 1) cv7) (show p < w1.heap.size by omega)) (And.intro (hR7.other (p := ⟨w1.heap.size, 1, none⟩) (.slice av7 (xs.length + 1) cv7) (show w.heap.size ≠ w1.heap.size by omega)) (hd7.set ⟨w1.heap.size, 1, none⟩ (.slice av7 (xs.length + 1) cv7) (show w.heap.size ≤ w1.heap.size by omega))))))
          clear o7 hg7 hat7 hV7 hc7 hR7 hd7
          go_wp2_with fail
          have HL9 : Hid ((xs ++ [(S : Int)]).length = xs.length + 1) := by simp [Hid]
          have HX9 : Hid (∀ k, k < (xs ++ [(S : Int)]).length → 0 ≤ nth (xs ++ [(S : Int)]) k ∧ nth (xs ++ [(S : Int)]) k < 1024) := fun j hj => by
            by_cases e : j < xs.length
            · rw [nth_snoc_lt e]; exact HX.out j e
            · obtain rfl : j = xs.length := by simp at hj; omega
              rw [nth_snoc_end]
              have : 2 ^ k ≤ 2 ^ 10 := Nat.pow_le_pow_right (by omega) (by omega)
              omega
          go_roundw
          case rel => exact ⟨av7, cv7, xs ++ [(S : Int)], by rw [HL9.out]; omega, by rw [HL9.out]; exact H7.out.1, by rw [HL9.out]; exact H7.out.2.1, HX9.out, H7.out.2.2.1.mono (by rw [HL9.out]; omega), H7.out.2.2.2.1, H7.out.2.2.2.2⟩
          case measure => rw [lenAt_of H7.out.1, lenAt_of HV.out]; omega
    · obtain rfl : xs.length = n := by omega
      have ⟨⟨zR, cR, dR⟩, fR, gR⟩ := hR
      have HO := Lib.hid ho
      have HR := Lib.hid hR
      have HX := Lib.hid hx
      have HC := Lib.hid hc
      have HD := Lib.hid hd
      clear hV ho hx hc hR hd
      go_wp2_with fail
      have R3 := HR.out.set (.int .i64 (xs.length : Int)) (.slice a xs.length cap)
      refine bodyPost_ret (v := .agg #[.int .i64 (xs.length : Int), .slice a xs.length cap]) (by have ⟨⟨_, q1, q2⟩, _, _⟩ := R3; simp [results, Try.results161, go_sem, q1, q2]) rfl ?_
      refine ⟨a, cap, xs, rfl, ((HO.out.setBelow (show w.heap.size < w1.heap.size + 1 by omega) _).setBelow (show w.heap.size < w1.heap.size + 1 by omega) _).mono (by omega), hn, HX.out, ?_, ?_⟩
      · exact ((HC.out.set _ _ (show p < w.heap.size by omega)).set _ _ (show p < w.heap.size by omega)).mono (by omega)
      · exact (HD.out.set _ _ (Nat.le_refl _)).set _ _ (Nat.le_refl _)

theorem asAscents_q (a : Option Addr) (xs : List Int) (n cap : Nat) (w : World) (hx : Rd w a xs) (hn : n ≤ xs.length) :
    Calls Try.prog 163 #[.slice a n cap] w fun e w' => e = .returned (.int .i64 (ascTo xs n : Nat)) ∧ ∃ m, w' = w.drewN m := by
  have hlen := hx.len
  have HA : Hid (∀ k, ascTo xs k ≤ k - 1) := ascTo_le xs
  go_enter Try.func163, Try.ntmps163
  go_wp2_with fail
  go_loopw [3, 4] (fun s i wr => ∃ k : Nat, 1 ≤ k ∧ k ≤ max 1 n ∧ i = .int .i64 k ∧ s = .int .i64 (ascTo xs k : Nat) ∧ ∃ m, wr = w.drewN m) (fun _ i _ => n + 1 - (intOf i).toNat)
  case atStart => exact ⟨1, by omega, by omega, rfl, rfl, 0, rfl⟩
  case round =>
    obtain ⟨k, hk1, hk, rfl, rfl, m0, rfl⟩ := hrel
    by_cases hlt : k < n
    · obtain ⟨b, off, rfl, hbl, hc⟩ := hx.cell k (by omega)
      obtain ⟨b', off', e', hbl', hc'⟩ := hx.cell (k-1) (by omega)
      simp only [Option.some.injEq, Addr.mk.injEq, and_true] at e'
      obtain ⟨rfl, rfl⟩ := e'
      have hak := HA.out k
      have hcast : IntKind.i64.wrap ((k : Int) - 1) = ((k - 1 : Nat) : Int) := by rw [i64_wrap, IntWalk.wrap64_in _ ⟨by omega, by omega⟩]; omega
      cases hr : riseB xs k
      · have H1 := Lib.hid (ascTo_no hr)
        have hge : ¬ nth xs (k-1) < nth xs k := by
          intro h; rw [riseB_iff.2 ⟨by omega, h⟩] at hr; cases hr
        clear hr
        go_wp2_with fail
        go_quiet (fail)
        go_wp2_with fail
        go_roundw
        case rel => exact ⟨k + 1, by omega, by omega, by go_num, by rw [H1.out], _, rfl⟩
        case measure => simp [intOf]; omega
      · have H1 := Lib.hid (ascTo_yes hr)
        have hge : nth xs (k-1) < nth xs k := (riseB_iff.1 hr).2
        clear hr
        go_wp2_with fail
        go_quiet (fail)
        go_wp2_with fail
        go_roundw
        case rel => exact ⟨k + 1, by omega, by omega, by go_num, by rw [H1.out]; go_num, _, rfl⟩
        case measure => simp [intOf]; omega
    · have HE : Hid (ascTo xs k = ascTo xs n) := by
        by_cases h0 : n = 0
        · obtain rfl : k = 1 := by omega
          rw [Hid, h0]; rfl
        · obtain rfl : k = n := by omega
          rfl
      go_wp2_with fail
      go_ret
      exact ⟨ret_int (by rw [HE.out]), m0, rfl⟩
theorem asAscents_any (a : Option Addr) (xs : List Int) (n cap : Nat) (w : World) (hx : Rd w a xs) (hn : n ≤ xs.length) :
    Calls Try.prog 163 #[.slice a n cap] w fun e w' => e = .returned (.int .i64 (ascTo xs n : Nat)) ∧ Below w.heap.size w w' :=
  (asAscents_q a xs n cap w hx hn).mono (fun e w' ⟨h1, m, h2⟩ => ⟨h1, by rw [h2]; exact Joins.below_draws _ _ _⟩)

theorem asBound_q (a : Option Addr) (xs : List Int) (n cap : Nat) (w : World) (hx : Rd w a xs) (hn : n ≤ xs.length) :
    Calls Try.prog 126 #[.slice a n cap] w fun e w' => e = .returned (.int .i64 (bndTo xs n)) ∧ ∃ m, w' = w.drewN m := by
  have hlen := hx.len
  by_cases h0 : n = 0
  · subst h0
    go_enter Try.func126, Try.ntmps126
    go_wp2_with fail
    go_ret
    exact ⟨rfl, 0, rfl⟩
  · have H1 : Hid (bndTo xs n = (ascTo xs n : Int) + 1) := bndTo_pos xs (by omega)
    have hal := ascTo_le xs n
    go_enter Try.func126, Try.ntmps126
    go_wp2_with fail
    refine (asAscents_q _ xs _ _ _ hx hn).mono ?_
    rintro e w1 ⟨rfl, m, rfl⟩
    go_wp2_with fail
    go_ret
    exact ⟨ret_int (by rw [H1.out]), m, rfl⟩
theorem asBound_any (a : Option Addr) (xs : List Int) (n cap : Nat) (w : World) (hx : Rd w a xs) (hn : n ≤ xs.length) :
    Calls Try.prog 126 #[.slice a n cap] w fun e w' => e = .returned (.int .i64 (bndTo xs n)) ∧ Below w.heap.size w w' :=
  (asBound_q a xs n cap w hx hn).mono (fun e w' ⟨h1, m, h2⟩ => ⟨h1, by rw [h2]; exact Joins.below_draws _ _ _⟩)
theorem asBound_is {a : Option Addr} {xs : List Int} {n cap : Nat} {w : World} (hx : Rd w a xs) (hn : n ≤ xs.length) {b : Int} (hb : bndTo xs n = b) (m : Nat) :
    Calls Try.prog 126 #[.slice a n cap] (w.drewN m) fun e w' => e = .returned (.int .i64 b) ∧ ∃ k, w' = w.drewN k :=
  Calls.quiet_of ((asBound_q a xs n cap (w.drewN m) (hx.below (Joins.below_draws _ _ _)) hn).mono (fun e w' hh => ⟨by rw [← hb]; exact hh.1, hh.2⟩))

/-- a list of small numbers that a law draws -/
def DrawnI (w : World) (e : Ending) (w' : World) : Prop :=
  ∃ (a : Option Addr) (cap : Nat) (xs : List Int), e = .returned (.slice a xs.length cap) ∧ OwnI w' w.heap.size (.slice a xs.length cap) xs ∧ xs.length ≤ 16 ∧ (∀ k, k < xs.length → -1 ≤ nth xs k ∧ nth xs k ≤ 1024) ∧ Below w.heap.size w w'
def AscI (w : World) (p L : Nat) (e : Ending) (w' : World) : Prop :=
  ∃ (a : Option Addr) (cap : Nat) (xs : List Int), e = .returned (.slice a xs.length cap) ∧ OwnI w' w.heap.size (.slice a xs.length cap) xs ∧ xs.length ≤ 14 ∧ (∀ k, k < xs.length → -1 ≤ nth xs k ∧ nth xs k ≤ 1024) ∧ Cur w' p (L + 100) ∧ Drawn w w' p
theorem small_snoc {xs : List Int} {x : Int} (h : ∀ k, k < xs.length → -1 ≤ nth xs k ∧ nth xs k ≤ 1024) (h0 : -1 ≤ x) (h1 : x ≤ 1024) : ∀ k, k < (xs ++ [x]).length → -1 ≤ nth (xs ++ [x]) k ∧ nth (xs ++ [x]) k ≤ 1024 := fun j hj => by
  have hl : (xs ++ [x]).length = xs.length + 1 := by simp
  by_cases e : j < xs.length
  · rw [nth_snoc_lt e]; exact h j e
  · obtain rfl : j = xs.length := by omega
    rw [nth_snoc_end]; omega
theorem small_set {xs : List Int} {x : Int} {i : Nat} (hi : i < xs.length) (h : ∀ k, k < xs.length → -1 ≤ nth xs k ∧ nth xs k ≤ 1024) (h0 : -1 ≤ x) (h1 : x ≤ 1024) : ∀ k, k < (xs.set i x).length → -1 ≤ nth (xs.set i x) k ∧ nth (xs.set i x) k ≤ 1024 := fun j hj => by
  rw [nth_set hi]
  split
  · omega
  · exact h j (by simpa using hj)
def lenV : Value → Nat
  | .slice _ n _ => n
  | _ => 0
set_option maxRecDepth 100000 in
set_option maxHeartbeats 2000000 in
theorem ascent_any (p L m : Nat) (w : World) (h : Cur w p L) (hL : L ≤ 600000000) (hm : m ≤ 12) :
    Calls Try.prog 85 #[.pointer (some ⟨p, 0, none⟩), .int .i64 (m : Int)] w (AscI w p L) := by
  have hpw := h.lt
  have H := Lib.hid h
  clear h
  go_enter Try.func85, Try.ntmps85
  go_wp2_with fail
  refine (pick_any p L ((m : Int) + 1) _ H.out (by omega) (by omega)).mono ?_
  rintro e w1 ⟨r, rfl, hr0, hr1, hc1, hd1⟩
  obtain ⟨n, rfl⟩ := Int.eq_ofNat_of_zero_le hr0
  have hn13 : n ≤ 13 := by omega
  have HC1 := Lib.hid hc1
  have HD1 := Lib.hid hd1
  clear hc1 hd1 hr0 hr1
  go_wp2_with fail
  refine (one_any p (L + 2) 10 _ HC1.out (by omega) (by omega)).mono ?_
  rintro e w2 ⟨he, hc2, hd2⟩
  have HC2 := Lib.hid (hc2.mono (show L + 2 + 2 ≤ L + 6 by omega))
  have HD2 := Lib.hid (HD1.out.trans hd2)
  clear hc2 hd2 HC1 HD1
  rcases he with rfl | rfl
  case' inl =>
    go_wp2_with fail
    refine (pick_any p (L + 6) 2 _ HC2.out (by omega) (by omega)).mono ?_
    rintro e w3 ⟨r, rfl, hr0, hr1, hc3, hd3⟩
    obtain ⟨r0, rfl⟩ := Int.eq_ofNat_of_zero_le hr0
    obtain ⟨n, hn⟩ : ∃ n : Nat, 12 + (r0 : Int) = (n : Int) := ⟨12 + r0, by omega⟩
    have hn13 : n ≤ 13 := by omega
    have HC := Lib.hid (hc3.mono (show L + 6 + 2 ≤ L + 8 by omega))
    have HD := Lib.hid (HD2.out.trans hd3)
    have HN := Lib.hid hn
    clear hc3 hd3 hr0 hr1 HC2 HD2 hn
    go_wp2_with fail
    rw [HN.out, show wrap64 (n : Int) = n from by rw [← i64_wrap]; exact wrap64_small _ (by omega) (by omega)]
    clear HN
    rename World => W
  case' inr =>
    have HC := Lib.hid (HC2.out.mono (show L + 6 ≤ L + 8 by omega))
    have HD := HD2
    clear HC2 HD2
    go_wp2_with fail
    rename World => W
  all_goals
    go_loopw [6] (fun v wr => ∃ (k : Nat) (a : Option Addr) (cap : Nat) (xs : List Int), v = .slice a k cap ∧ xs.length = k ∧ k ≤ 13 ∧ OwnI wr w.heap.size (.slice a k cap) xs ∧ (∀ k, k < xs.length → -1 ≤ nth xs k ∧ nth xs k ≤ 1024) ∧ Cur wr p (L + 8 + 4 * k) ∧ Drawn w wr p) (fun v _ => n - lenV v)
    case atStart => exact ⟨0, none, 0, [], rfl, rfl, by omega, OwnI.nil _ _, fun k hk => by simp at hk, HC.out, HD.out⟩
    case round =>
      obtain ⟨k, a, cap, xs, rfl, hl, hk, ho, hx, hc, hd⟩ := hrel
      have HX := Lib.hid hx
      have HO := Lib.hid ho
      have HCu := Lib.hid hc
      have HDr := Lib.hid hd
      clear hx ho hc hd HC HD
      subst hl
      by_cases hlt : xs.length < n
      · have k1 : (xs.length : Int) < (n : Int) := by omega
        go_wp2_with fail
        refine (asBound_any a xs xs.length cap _ HO.out.rd (Nat.le_refl _)).mono ?_
        rintro e w4 ⟨rfl, hb4⟩
        have hbb := bndTo_le xs xs.length
        generalize bndTo xs xs.length = b at hbb
        have HO4 := Lib.hid (HO.out.below hb4 (Nat.le_refl _))
        have HC4 := Lib.hid (HCu.out.below hb4)
        have HD4 := Lib.hid (HDr.out.below hb4)
        clear hb4
        go_wp2_with fail
        refine (pick_any p (L + 8 + 4 * xs.length) (b + 1) _ HC4.out (by omega) (by omega)).mono ?_
        rintro e w5 ⟨x, rfl, hx0, hx1, hc5, hd5⟩
        have HO5 := Lib.hid (HO4.out.drawn hd5 hpw)
        have HC5 := Lib.hid hc5
        have HD5 := Lib.hid (HD4.out.trans hd5)
        clear hc5 hd5
        go_wp2_with fail
        refine (one_any p (L + 8 + 4 * xs.length + 2) 3 _ HC5.out (by omega) (by omega)).mono ?_
        rintro e w6 ⟨he, hc6, hd6⟩
        have HO6 := Lib.hid (HO5.out.drawn hd6 hpw)
        have HC6 := Lib.hid (hc6.mono (show L + 8 + 4 * xs.length + 2 + 2 ≤ L + 8 + 4 * (xs.length + 1) by omega))
        have HD6 := Lib.hid (HD5.out.trans hd6)
        have hs6 := HD6.out.size
        clear hc6 hd6
        obtain ⟨y, hy, hy0, hy1⟩ : ∃ y : Int, (e = .returned (.bool true) ∧ y = b ∨ e = .returned (.bool false) ∧ y = x) ∧ -1 ≤ y ∧ y ≤ 1024 := by
          rcases he with rfl | rfl
          · exact ⟨b, .inl ⟨rfl, rfl⟩, by omega, by omega⟩
          · exact ⟨x, .inr ⟨rfl, rfl⟩, by omega, by omega⟩
        have HX6 := Lib.hid (small_snoc HX.out hy0 hy1)
        rcases hy with ⟨rfl, rfl⟩ | ⟨rfl, rfl⟩
        all_goals
          go_wp2_with (at_builtin; refine push_at (v := .slice a xs.length cap) (z := y) rfl _ _ rfl rfl HO6.out rfl (by omega) hs6 ?_; intro v7 w7 o7 hg7 hat7; revert hat7)
          intro hat7
          obtain ⟨av7, cv7, ev7⟩ := o7.form
          subst ev7
          have hl7 : (xs ++ [y]).length = xs.length + 1 := by simp
          have hd7 := HD6.out.grown hg7 (fun c e => (HO6.out.lt c e).1)
          have hc7 := HC6.out.kept hg7 (fun g e => by have := (HO6.out.lt g e).1; omega)
          clear hat7 hg7
          go_wp2_with fail
          go_roundw
          case rel => exact ⟨xs.length + 1, av7, cv7, xs ++ [y], by rw [hl7], hl7, by omega, by rw [hl7] at o7; exact o7, HX6.out, hc7, hd7⟩
          case measure => simp [lenV]; omega
      · have k1 : ¬ (xs.length : Int) < (n : Int) := by omega
        have HCu2 := Lib.hid (HCu.out.mono (show L + 8 + 4 * xs.length ≤ L + 60 by omega))
        have hk13 := hk
        clear HCu
        go_wp2_with fail
        refine (pick_any p (L + 60) 14 _ HCu2.out (by omega) (by omega)).mono ?_
        rintro e w4 ⟨r, rfl, hr0, hr1, hc4, hd4⟩
        have HO4 := Lib.hid (HO.out.drawn hd4 hpw)
        have HC4 := Lib.hid hc4
        have HD4 := Lib.hid (HDr.out.trans hd4)
        clear hc4 hd4
        have hs4 := HD4.out.size
        by_cases h0 : r = 0
        · subst h0
          by_cases hl0 : 0 < xs.length
          · have l1 : (0 : Int) < (xs.length : Int) := by omega
            obtain ⟨g, ea, hg0, hg1⟩ := HO4.out.head hl0
            subst ea
            go_wp2_with fail
            refine (pick_any p (L + 62) (xs.length : Int) _ HC4.out (by omega) (by omega)).mono ?_
            rintro e w5 ⟨q, rfl, hq0, hq1, hc5, hd5⟩
            obtain ⟨j, rfl⟩ := Int.eq_ofNat_of_zero_le hq0
            have hj : j < xs.length := by omega
            have HO5 := Lib.hid (HO4.out.drawn hd5 hpw)
            have HC5 := Lib.hid hc5
            have HD5 := Lib.hid (HD4.out.trans hd5)
            clear hc5 hd5
            go_wp2_with fail
            refine (pick_any p (L + 64) 7 _ HC5.out (by omega) (by omega)).mono ?_
            rintro e w6 ⟨z, rfl, hz0, hz1, hc6, hd6⟩
            have HO6 := Lib.hid (HO5.out.drawn hd6 hpw)
            have HD6 := Lib.hid (HD5.out.trans hd6)
            have ho6 := HO6.out
            have ⟨cj, fj⟩ := ho6.at' rfl (i := j) hj
            have j1 : (j : Int) < (xs.length : Int) := by omega
            have HP := Lib.hid ((ho6.put rfl j (z - 1)).1)
            have HC6 := Lib.hid ((hc6.set ⟨g, j, none⟩ (.int .i64 (z - 1)) (show p < g by omega)).mono (show L + 64 + 2 ≤ L + 100 by omega))
            have HD7 := Lib.hid (HD6.out.set ⟨g, j, none⟩ (.int .i64 (z - 1)) hg0)
            have HX6 := Lib.hid (small_set (x := z - 1) hj HX.out (by omega) (by omega))
            have er : IntKind.i64.wrap (z - 1) = z - 1 := wrap64_small _ (by omega) (by omega)
            have HLN : Hid ((xs.set j (z - 1)).length = xs.length) := by simp [Hid]
            clear hc6 hd6 ho6
            go_wp2_with fail
            go_ret
            exact ⟨some ⟨g, 0, none⟩, cap, xs.set j (z - 1), by rw [HLN.out]; rfl, by rw [HLN.out]; exact HP.out, by rw [HLN.out]; omega, HX6.out, HC6.out, HD7.out⟩
          · have l1 : ¬ (0 : Int) < (xs.length : Int) := by omega
            go_wp2_with fail
            go_ret
            exact ⟨a, cap, xs, rfl, HO4.out, by omega, HX.out, HC4.out.mono (by omega), HD4.out⟩
        · have hz0 : (r == 0) = false := by simpa using h0
          by_cases h1 : r = 1
          · subst h1
            go_wp2_with fail
            refine (asBound_any a xs xs.length cap _ HO4.out.rd (Nat.le_refl _)).mono ?_
            rintro e w5 ⟨rfl, hb5⟩
            have hbb := bndTo_le xs xs.length
            generalize bndTo xs xs.length = b at hbb
            have HO5 := Lib.hid (HO4.out.below hb5 (Nat.le_refl _))
            have HC5 := Lib.hid (HC4.out.below hb5)
            have HD5 := Lib.hid (HD4.out.below hb5)
            clear hb5
            go_wp2_with fail
            refine (pick_any p (L + 62) 2 _ HC5.out (by omega) (by omega)).mono ?_
            rintro e w6 ⟨z, rfl, hz0, hz1, hc6, hd6⟩
            have HO6 := Lib.hid (HO5.out.drawn hd6 hpw)
            have HC6 := Lib.hid hc6
            have HD6 := Lib.hid (HD5.out.trans hd6)
            have hs6 := HD6.out.size
            have HX6 := Lib.hid (small_snoc (x := b + z) HX.out (by omega) (by omega))
            have er : IntKind.i64.wrap (b + z) = b + z := wrap64_small _ (by omega) (by omega)
            clear hc6 hd6
            go_wp2_with (at_builtin; refine push_at (v := .slice a xs.length cap) (z := b + z) rfl _ _ rfl rfl HO6.out rfl (by omega) hs6 ?_; intro v7 w7 o7 hg7 hat7; revert hat7)
            intro hat7
            obtain ⟨av7, cv7, ev7⟩ := o7.form
            subst ev7
            have hl7 : (xs ++ [b + z]).length = xs.length + 1 := by simp
            have hd7 := HD6.out.grown hg7 (fun c e => (HO6.out.lt c e).1)
            have hc7 := HC6.out.kept hg7 (fun g e => by have := (HO6.out.lt g e).1; omega)
            clear hat7 hg7
            go_wp2_with fail
            go_ret
            exact ⟨av7, cv7, xs ++ [b + z], rfl, o7, by omega, HX6.out, hc7.mono (by omega), hd7⟩
          · have h11 : (r == 1) = false := by simpa using h1
            go_wp2_with fail
            go_ret
            exact ⟨a, cap, xs, rfl, HO4.out, by omega, HX.out, HC4.out.mono (by omega), HD4.out⟩

theorem RowsP.cut {w : World} {B : Nat} {v : Value} {vl : List Value} {xss : List (List Int)} (h : RowsP w B v vl xss) {U : Nat} (hU : w.heap.size ≤ U) : (∀ c, v.ownBlock = some c → B ≤ c ∧ c < U) ∧ ∀ k, k < xss.length → ∀ c, (valAt vl k).ownBlock = some c → B ≤ c ∧ c < U :=
  ⟨fun c e => by have := h.o.lt c e; omega, fun k hk c e => by have := (h.o.row k hk).lt c e; omega⟩
theorem RowsP.touch {lo hi : Nat} {w w' : World} {B : Nat} {v : Value} {vl : List Value} {xss : List (List Int)} (h : RowsP w B v vl xss) (ht : TouchS lo hi w w') (h1 : ∀ c, v.ownBlock = some c → c < lo ∨ hi ≤ c) (h2 : ∀ k, k < xss.length → ∀ c, (valAt vl k).ownBlock = some c → c < lo ∨ hi ≤ c) : RowsP w' B v vl xss := by
  refine ⟨⟨⟨h.o.own.1, ?_⟩, fun k hk => (h.o.row k hk).touch ht (h2 k hk), h.o.apart⟩, h.pair⟩
  rcases h.o.own.2 with hn | ⟨g, cap, cur, e, hb', hg, rest⟩
  · exact .inl hn
  · refine .inr ⟨g, cap, cur, e, hb', ?_, rest⟩
    rw [ht.block g (Array.getElem?_eq_some_iff.1 hg).1 (h1 g (by rw [e]; rfl))]
    exact hg
theorem RowsP.kept {w w' : World} {B : Nat} {v : Value} {vl : List Value} {xss : List (List Int)} {row : Option Nat} (h : RowsP w B v vl xss) (hg : w.grownBy w' row) (h1 : ∀ c, v.ownBlock = some c → row ≠ some c) (h2 : ∀ k, k < xss.length → ∀ c, (valAt vl k).ownBlock = some c → row ≠ some c) : RowsP w' B v vl xss := by
  have e : ∀ u : Value, (∀ c, u.ownBlock = some c → row ≠ some c) → u.ownBlock = none ∨ u.ownBlock ≠ row := fun u hu => by
    cases hv : u.ownBlock with
    | none => exact .inl rfl
    | some c => exact .inr (fun e => hu c hv e.symm)
  exact ⟨⟨World.ownsRow.kept h.o.own hg (e v h1), fun k hk => (h.o.row k hk).kept hg (e _ (h2 k hk)), h.o.apart⟩, h.pair⟩
theorem OwnS.mono {w : World} {B B' g : Nat} {vl : List Value} {xss : List (List Int)} (h : OwnS w B g vl xss) (hB : B' ≤ B) : OwnS w B' g vl xss := ⟨Nat.le_trans hB h.lo, h.hi, h.max, h.cell, h.row, h.apart⟩
theorem TouchS.of_below {B lo hi : Nat} {w w1 w2 : World} (hb : Below w.heap.size w w1) (h : TouchS lo hi w1 w2) : TouchS lo hi w w2 :=
  ⟨h.os.trans hb.os, h.tape.trans hb.tape, h.output.trans hb.output, Nat.le_trans hb.size h.size, fun k hk hn => (h.block k (Nat.lt_of_lt_of_le hk hb.size) hn).trans (hb.block k hk)⟩

/-- a matrix in a box, as it is drawn -/
structure MatK (w : World) (p L bm : Nat) (a : Option Addr) (c : Nat) (vl : List Value) (xss : List (List Int)) (W : World) : Prop where
  z : Var1 W w.heap.size (.slice none 0 0)
  m : Var1 W bm (.slice a xss.length c)
  r : RowsP W (w.heap.size + 1) (.slice a xss.length c) vl xss
  cu : Cur W p L
  d : Drawn w W p
  hp : p < w.heap.size
  hb : w.heap.size < bm
  nb : (∀ g, (Value.slice a xss.length c).ownBlock = some g → g ≠ bm) ∧ ∀ k, k < xss.length → ∀ g, (valAt vl k).ownBlock = some g → g ≠ bm
theorem RowsP.lo {w : World} {B : Nat} {v : Value} {vl : List Value} {xss : List (List Int)} (h : RowsP w B v vl xss) {p : Nat} (hp : p < B) : (∀ c, v.ownBlock = some c → some p ≠ some c) ∧ ∀ k, k < xss.length → ∀ c, (valAt vl k).ownBlock = some c → some p ≠ some c :=
  ⟨fun c e e2 => by have := ((h.cut (Nat.le_refl _)).1 c e).1; simp only [Option.some.injEq] at e2; omega, fun k hk c e e2 => by have := ((h.cut (Nat.le_refl _)).2 k hk c e).1; simp only [Option.some.injEq] at e2; omega⟩
theorem RowsP.drawn {w W : World} {B p : Nat} {v : Value} {vl : List Value} {xss : List (List Int)} (h : RowsP w B v vl xss) (hd : Drawn w W p) (hp : p < B) : RowsP W B v vl xss :=
  h.kept hd (h.lo hp).1 (h.lo hp).2
theorem Var1.drawn {w w' : World} {p b : Nat} {u : Value} (h : Var1 w b u) (hd : Drawn w w' p) (hne : b ≠ p) : Var1 w' b u := h.kept hd (by simpa using hne)
theorem MatK.drawn {w W W' : World} {p L L' bm c : Nat} {a : Option Addr} {vl : List Value} {xss : List (List Int)} (h : MatK w p L bm a c vl xss W) (hd : Drawn W W' p) (hc : Cur W' p L') : MatK w p L' bm a c vl xss W' :=
  ⟨h.z.drawn hd (by have := h.hp; omega), h.m.drawn hd (by have := h.hp; have := h.hb; omega), h.r.drawn hd (by have := h.hp; omega), hc, h.d.trans hd, h.hp, h.hb, h.nb⟩
theorem MatK.below {w W W' : World} {p L bm c : Nat} {a : Option Addr} {vl : List Value} {xss : List (List Int)} (h : MatK w p L bm a c vl xss W) (hb : Below W.heap.size W W') : MatK w p L bm a c vl xss W' :=
  ⟨h.z.below hb, h.m.below hb, h.r.below hb (Nat.le_refl _), h.cu.below hb, h.d.below hb, h.hp, h.hb, h.nb⟩
theorem MatK.drawnR {w W W' : World} {p L bm c : Nat} {a : Option Addr} {vl : List Value} {xss : List (List Int)} (h : MatK w p L bm a c vl xss W) (hd : Drawn W W' p) : RowsP W' (w.heap.size + 1) (.slice a xss.length c) vl xss := h.r.drawn hd (by have := h.hp; omega)
theorem rows_cap {w : World} {B n c g : Nat} {vl : List Value} {xss : List (List Int)} (h : RowsP w B (.slice (some ⟨g, 0, none⟩) n c) vl xss) : n ≤ c := by
  rcases h.o.own.2 with ⟨e, h0⟩ | ⟨g', cap3, cur, e, hb, hg, h3, h4, _⟩
  · simp at e
  · simp only [Value.slice.injEq] at e
    obtain ⟨_, rfl, rfl⟩ := e
    have := h.o.vlen
    omega
/-- rows without the first one -/
theorem RdC.tail {w : World} {b off : Nat} {xss : List (List Int)} (h : RdC w (some ⟨b, off, none⟩) xss) : RdC w (some ⟨b, off + 1, none⟩) (xss.drop 1) := by
  have e : ∀ k, rowL (xss.drop 1) k = rowL xss (k + 1) := fun k => by simp [rowL, Nat.add_comm 1 k]
  have hl : (xss.drop 1).length = xss.length - 1 := by simp
  refine ⟨⟨by have := h.rd.len; omega, fun k hk => ?_⟩, fun k hk => ?_⟩
  · obtain ⟨b', off', a', c', e1, h1, h2, h3⟩ := h.rd.row (k+1) (by omega)
    simp only [Option.some.injEq, Addr.mk.injEq, and_true] at e1
    obtain ⟨rfl, rfl⟩ := e1
    rw [e k]
    exact ⟨b, off + 1, a', c', rfl, h1, by rw [Nat.add_assoc, Nat.add_comm 1 k]; exact h2, h3⟩
  · obtain ⟨b', off', a', c', e1, h2, h3⟩ := h.cap (k+1) (by omega)
    simp only [Option.some.injEq, Addr.mk.injEq, and_true] at e1
    obtain ⟨rfl, rfl⟩ := e1
    rw [e k]
    exact ⟨b, off + 1, a', c', rfl, by rw [Nat.add_assoc, Nat.add_comm 1 k]; exact h2, h3⟩
/-- rows that can be read: all that have been made, or all but the first -/
def MatR (w : World) (B : Nat) (a : Option Addr) (xss : List (List Int)) : Prop :=
  ∃ (a0 : Option Addr) (c0 : Nat) (vl : List Value) (yss : List (List Int)), RowsP w B (.slice a0 yss.length c0) vl yss ∧ ((a = a0 ∧ xss = yss) ∨ (∃ g, a0 = some ⟨g, 0, none⟩ ∧ a = some ⟨g, 1, none⟩ ∧ xss = yss.drop 1))
theorem MatR.kept {w w' : World} {B q : Nat} {a : Option Addr} {xss : List (List Int)} (h : MatR w B a xss) (hg : w.grownBy w' (some q)) (hq : q < B) : MatR w' B a xss := by
  obtain ⟨a0, c0, vl, yss, hr, h2⟩ := h
  exact ⟨a0, c0, vl, yss, hr.kept hg (hr.lo hq).1 (hr.lo hq).2, h2⟩
theorem MatR.below {w w' : World} {B : Nat} {a : Option Addr} {xss : List (List Int)} (h : MatR w B a xss) (hb : Below w.heap.size w w') : MatR w' B a xss := by
  obtain ⟨a0, c0, vl, yss, hr, h2⟩ := h
  exact ⟨a0, c0, vl, yss, hr.below hb (Nat.le_refl _), h2⟩
theorem MatR.rdC {w : World} {B : Nat} {a : Option Addr} {xss : List (List Int)} (h : MatR w B a xss) : RdC w a xss := by
  obtain ⟨a0, c0, vl, yss, hr, (⟨rfl, rfl⟩ | ⟨g, rfl, rfl, rfl⟩)⟩ := h
  · exact hr.rdC
  · exact hr.rdC.tail
/-- a matrix that has been drawn -/
def MatD (w : World) (p L : Nat) (e : Ending) (w' : World) : Prop :=
  ∃ (a : Option Addr) (c : Nat) (xss : List (List Int)), e = .returned (.agg #[.slice a xss.length c]) ∧ MatR w' (w.heap.size + 1) a xss ∧ xss.length ≤ 20 ∧ xss.length + totS xss xss.length ≤ 1048576 ∧ Cur w' p L ∧ Drawn w w' p
theorem tot_rows {xss : List (List Int)} (h : ∀ k, k < xss.length → (rowL xss k).length ≤ 20) : ∀ k, k ≤ xss.length → totS xss k ≤ 20 * k
  | 0, _ => by simp [totS]
  | k+1, hk => by
    have := tot_rows h k (by omega)
    have := h k (by omega)
    rw [totS]; omega
theorem tot_fine {xss : List (List Int)} (h : ∀ k, k < xss.length → (rowL xss k).length ≤ 20) (hl : xss.length ≤ 20) : xss.length + totS xss xss.length ≤ 1048576 := by
  have := tot_rows h xss.length (Nat.le_refl _)
  omega
theorem moK_rows {xs : List Int} (h : ascB xs = true) : (moK xs xs.length).length ≤ 12 ∧ ∀ k, k < (moK xs xs.length).length → (rowL (moK xs xs.length) k).length = (moK xs xs.length).length := by
  have h1 := (moK_ok h (Nat.le_refl _)).1
  have h2 := mxB_small h1
  exact ⟨h2, fun k hk => mxB_len h1 hk⟩
/-- the end of the draw: a matrix that has been read out of its box -/
theorem mat_end {w W : World} {p L : Nat} {a : Option Addr} {c : Nat} {xss : List (List Int)} (hz : Var1 W w.heap.size (.slice none 0 0)) (hr : MatR (W.setCell ⟨w.heap.size, 0, none⟩ (.slice a xss.length c)) (w.heap.size + 1) a xss) (hl : xss.length ≤ 20) (ht : xss.length + totS xss xss.length ≤ 1048576) (hc : Cur W p L) (hd : Drawn w W p) (hp : p < w.heap.size) :
    Var1 (W.setCell ⟨w.heap.size, 0, none⟩ (.slice a xss.length c)) w.heap.size (.slice a xss.length c) ∧ MatD w p L (.returned (.agg #[.slice a xss.length c])) (W.setCell ⟨w.heap.size, 0, none⟩ (.slice a xss.length c)) :=
  ⟨hz.set _, a, c, xss, rfl, hr, hl, ht, hc.set ⟨w.heap.size, 0, none⟩ _ hp, hd.set ⟨w.heap.size, 0, none⟩ _ (Nat.le_refl _)⟩
theorem MatK.done {w W : World} {p L bm c : Nat} {a : Option Addr} {vl : List Value} {xss : List (List Int)} (h : MatK w p L bm a c vl xss W) (hl : xss.length ≤ 20) (hk : ∀ k, k < xss.length → (rowL xss k).length ≤ 20) :
    Var1 (W.setCell ⟨w.heap.size, 0, none⟩ (.slice a xss.length c)) w.heap.size (.slice a xss.length c) ∧ MatD w p L (.returned (.agg #[.slice a xss.length c])) (W.setCell ⟨w.heap.size, 0, none⟩ (.slice a xss.length c)) :=
  mat_end h.z ⟨a, c, vl, xss, h.r.setBelow (p := ⟨w.heap.size, 0, none⟩) (show w.heap.size < w.heap.size + 1 by omega) (.slice a xss.length c), .inl ⟨rfl, rfl⟩⟩ hl (tot_fine hk hl) h.cu h.d h.hp
theorem MatK.box {w W : World} {p L bm c : Nat} {a : Option Addr} {vl : List Value} {xss : List (List Int)} (h : MatK w p L bm a c vl xss W) (x : Value) : RowsP (W.setCell ⟨bm, 0, none⟩ x) (w.heap.size + 1) (.slice a xss.length c) vl xss :=
  h.r.kept (grown_set W ⟨bm, 0, none⟩ x) (fun g e e2 => h.nb.1 g e (by simpa using e2.symm)) (fun k hk g e e2 => h.nb.2 k hk g e (by simpa using e2.symm))
/-- a number of the matrix is written -/
theorem MatK.put {w W : World} {p L bm c : Nat} {a : Option Addr} {vl : List Value} {xss : List (List Int)} (h : MatK w p L bm a c vl xss W) {i j : Nat} (hi : i < xss.length) (hj : j < (rowL xss i).length) : ∃ g cr, valAt vl i = .slice (some ⟨g, 0, none⟩) (rowL xss i).length cr ∧ (∃ z, W.cell? ⟨g, j, none⟩ = some z) ∧ W.frozen? ⟨g, j, none⟩ = false ∧ ∀ x : Int, MatK w p L bm a c vl (setM xss i j x) (W.setCell ⟨g, j, none⟩ (.int .i64 x)) := by
  obtain ⟨g, cr, e, hg0, hg1, hc, hf, hs⟩ := h.r.num hi hj
  have hgb : g ≠ bm := h.nb.2 i hi g (by rw [e]; rfl)
  refine ⟨g, cr, e, ⟨_, hc⟩, hf, fun x => ?_⟩
  have hp := h.hp
  have hl := setM_len xss i j x
  refine ⟨h.z.other (p := ⟨g, j, none⟩) _ (show w.heap.size ≠ g by omega), by rw [hl]; exact h.m.other (p := ⟨g, j, none⟩) _ (fun e => hgb e.symm), by rw [hl]; exact hs x, h.cu.set ⟨g, j, none⟩ _ (show p < g by omega), h.d.set ⟨g, j, none⟩ _ (show w.heap.size ≤ g by omega), hp, h.hb, ?_⟩
  rw [hl]; exact h.nb
theorem setM_rlen {xss : List (List Int)} {i j k : Nat} {x : Int} (hi : i < xss.length) : (rowL (setM xss i j x) k).length = (rowL xss k).length := by
  rw [setM_row hi]
  split
  · rename_i e; rw [List.length_set, e]
  · rfl
/-- one row more at the end, and where the rows lie then -/
theorem push_rowAt {ops : Array Oper} {rest : List Oper} {o : Oper} {a : Act} {Q : Exit → Act → World → Prop} (hgd : o.guard = none) (s x : Operand)
    (ho : o.op = .call { callee := .builtin .append, args := #[s, x], argTypes := #[58, 58] }) {wr : World} {B C n cp : Nat} {ar : Option Addr} {v : Value} {vl : List Value} {xss : List (List Int)} {r : List Int}
    (hs : a.eval s = v) (hro : RowsP wr B v vl xss) (hrow : OwnI wr C (.slice ar n cp) r) (N : Nat) (hN : wr.heap.size = N) (hx : a.eval x = .slice (some ⟨N, 0, none⟩) 1 1) (h63 : xss.length ≤ 1048576) (hBC : B ≤ C) (hC : C ≤ wr.heap.size)
    (hvC : ∀ c, v.ownBlock = some c → c < C) (hrC : ∀ k, k < xss.length → ∀ c, (valAt vl k).ownBlock = some c → c < C)
    (h : ∀ v' w', RowsP w' B v' (vl ++ [.slice ar n cp]) (xss ++ [r]) → wr.grownBy w' v.ownBlock → (v'.ownBlock = v.ownBlock ∨ v'.ownBlock = some (N + 1)) → wpList Try.prog ops Q rest (a.put o.dst v') w') :
    wpList Try.prog ops Q (o :: rest) a (wr.alloc (.cells #[.slice ar n cp] 26)) := by
  subst hN
  obtain ⟨j0, hj0, hy0, hy1, hy2⟩ := info_parts infoSlice
  have hone := RowsP.one hrow hC
  have b4 : Below wr.heap.size wr (wr.alloc (.cells #[.slice ar n cp] 26)) := (Below.refl _ _).alloc (Nat.le_refl _) _
  have hro4 := hro.below b4 (Nat.le_refl _)
  obtain ⟨av, cv, rfl⟩ := hro.o.form
  refine wpList_append_own_at _ hgd s x 58 ho B 26 j0 (.slice none 0 0) 1 24 Try.underlying58 hj0 hy0 hy1 hy2 rfl (by decide) (.slice av xss.length cv) xss.length vl hs hro4.o.own ⟨wr.heap.size, 0, none⟩ 1 1 [.slice ar n cp] hx rfl (cell_one_new _ _ _) (by intro u hu; simp at hu; subst hu; rfl) (by unfold maxLen; omega) (by omega) (by simp; omega) ?_
  intro v' w' ho2 hg _ hat
  exact h v' w' (hro4.cat hone hBC hvC hrC ho2 hg hat) (grown_alloc_set hg) (by simpa using hat)
theorem mat_row {w W : World} {p L bm c g : Nat} {vl : List Value} {xss : List (List Int)} (h : MatK w p L bm (some ⟨g, 0, none⟩) c vl xss W) {i gr cr n : Nat} (hi : i < xss.length) (e : valAt vl i = .slice (some ⟨gr, 0, none⟩) (rowL xss i).length cr) (hn : (rowL xss i).length = n) : W.cell? ⟨g, i, none⟩ = some (.slice (some ⟨gr, 0, none⟩) n cr) := by
  obtain ⟨g', ea, _, _, hc, _⟩ := h.r.outer hi
  simp only [Option.some.injEq, Addr.mk.injEq, and_true] at ea
  subst ea
  rw [hc, e, hn]

/-- the set of all elements above one of those of a set that are less than k -/
def aboveTo (xs : List Int) (s : Int) : Nat → Nat
  | 0 => 0
  | k+1 => if hasB s k then aboveTo xs s k ||| (nth xs k).toNat else aboveTo xs s k
theorem aboveTo_lt {n : Int} {xs : List Int} (hp : RelP n xs) (s : Int) : ∀ k, k ≤ xs.length → aboveTo xs s k < 2 ^ 10
  | 0, _ => by simp [aboveTo]
  | k+1, hk => by
    have h := aboveTo_lt hp s k (by omega)
    have h1 := hp.small k (by omega)
    have h0 := hp.pos k (by omega)
    simp only [aboveTo]
    split
    · exact or_lt h (by omega)
    · exact h
theorem aboveTo_bit (xs : List Int) (s : Int) (j : Nat) : ∀ k, (aboveTo xs s k).testBit j = true ↔ ∃ i, i < k ∧ hasB s i = true ∧ (nth xs i).toNat.testBit j = true
  | 0 => by simp [aboveTo]
  | k+1 => by
    have ih := aboveTo_bit xs s j k
    simp only [aboveTo]
    cases hb : hasB s k
    · rw [if_neg (by simp), ih]
      constructor
      · rintro ⟨i, h1, h2, h3⟩
        exact ⟨i, by omega, h2, h3⟩
      · rintro ⟨i, h1, h2, h3⟩
        have : i ≠ k := fun e => by rw [e, hb] at h2; cases h2
        exact ⟨i, by omega, h2, h3⟩
    · rw [if_pos rfl, Nat.testBit_or, Bool.or_eq_true, ih]
      constructor
      · rintro (⟨i, h1, h2, h3⟩ | h)
        · exact ⟨i, by omega, h2, h3⟩
        · exact ⟨k, by omega, hb, h⟩
      · rintro ⟨i, h1, h2, h3⟩
        by_cases e : i = k
        · subst e; exact .inr h3
        · exact .inl ⟨i, by omega, h2, h3⟩
theorem okAtB_above {xs : List Int} {k : Nat} (h : hasB (nth xs k) k = false) : okAtB xs k = (sub (aboveTo xs (nth xs k) xs.length) (nth xs k).toNat == 0) := by
  rw [Bool.eq_iff_iff, okAtB_iff, beq_iff_eq, sub_zero]
  constructor
  · rintro ⟨_, h2⟩ i hi
    obtain ⟨j, hj, hb, ht⟩ := (aboveTo_bit _ _ _ _).1 hi
    exact sub_zero.1 (h2 j hj hb) i ht
  · intro h2
    refine ⟨h, fun j hj hb => sub_zero.2 (fun i hi => h2 i ((aboveTo_bit _ _ _ _).2 ⟨j, hj, hb, hi⟩))⟩

/-- is the number at k an element, and greater than the one before it? -/
def okI (n : Int) (es : List Int) (k : Nat) : Bool := elemB (nth es k) n && (k == 0 || decide (nth es (k-1) < nth es k))
def incB (n : Int) (es : List Int) : Bool := (List.range es.length).all (okI n es)
theorem incB_iff {n : Int} {es : List Int} : incB n es = true ↔ ∀ k, k < es.length → okI n es k = true := by simp [incB]
theorem incB_no {n : Int} {es : List Int} {k : Nat} (hk : k < es.length) (h : okI n es k = false) : incB n es = false := by
  rw [← Bool.not_eq_true, incB_iff]
  intro h2
  rw [h2 k hk] at h
  cases h
theorem okI_elem {n : Int} {es : List Int} {k : Nat} (h : okI n es k = true) : 0 ≤ nth es k ∧ nth es k < n := by
  simp only [okI, Bool.and_eq_true] at h
  exact elemB_iff.1 h.1
theorem inc_ge {n : Int} {es : List Int} (h : ∀ k, k < es.length → okI n es k = true) : ∀ k, k < es.length → (k : Int) ≤ nth es k
  | 0, hk => by have := (okI_elem (h 0 hk)).1; simpa using this
  | k+1, hk => by
    have ih := inc_ge h k (by omega)
    have := h (k+1) hk
    simp only [okI, Bool.and_eq_true, Bool.or_eq_true, beq_iff_eq, decide_eq_true_eq] at this
    rcases this.2 with h0 | h0
    · omega
    · simp only [Nat.add_sub_cancel] at h0
      push_cast
      omega
theorem inc_len {n : Int} {es : List Int} (h : incB n es = true) (hn : 0 ≤ n) : (es.length : Int) ≤ n := by
  rw [incB_iff] at h
  rcases Nat.eq_zero_or_pos es.length with h0 | h0
  · omega
  · have h1 := inc_ge h (es.length - 1) (by omega)
    have h2 := (okI_elem (h (es.length - 1) (by omega))).2
    omega

/-- the set of the first k numbers of a list -/
def setTo (es : List Int) : Nat → Nat
  | 0 => 0
  | k+1 => setTo es k ||| 2 ^ (nth es k).toNat
/-- how many numbers less than n are in a set -/
def card (s : Nat) : Nat → Nat
  | 0 => 0
  | n+1 => card s n + (if s.testBit n then 1 else 0)
theorem card_or (s x : Nat) : ∀ n, card (s ||| 2 ^ x) n = card s n + (if x < n ∧ s.testBit x = false then 1 else 0)
  | 0 => by simp [card]
  | n+1 => by
    have ih := card_or s x n
    simp only [card, ih, Nat.testBit_or, testBit_two]
    by_cases h : x = n
    · subst h
      cases s.testBit x <;> simp
    · have h2 : x < n + 1 ↔ x < n := by omega
      simp only [h, decide_false, Bool.or_false, h2]
      omega
theorem card_le (s : Nat) : ∀ n, card s n ≤ n
  | 0 => Nat.le_refl _
  | n+1 => by
    have := card_le s n
    simp only [card]
    split <;> omega
theorem card_full {s : Nat} : ∀ n, card s n = n → ∀ i, i < n → s.testBit i = true
  | 0, _, i, hi => by omega
  | n+1, h, i, hi => by
    have h1 := card_le s n
    simp only [card] at h
    cases hb : s.testBit n
    · rw [hb] at h
      simp at h
      omega
    · rw [hb] at h
      simp at h
      by_cases e : i = n
      · rw [e]; exact hb
      · exact card_full n h i (by omega)
theorem card_all {s : Nat} : ∀ n, (∀ i, i < n → s.testBit i = true) → card s n = n
  | 0, _ => rfl
  | n+1, h => by
    simp only [card, h n (by omega), if_true]
    rw [card_all n (fun i hi => h i (by omega))]
theorem setTo_bit (es : List Int) (j : Nat) : ∀ k, (setTo es k).testBit j = true ↔ ∃ i, i < k ∧ (nth es i).toNat = j
  | 0 => by simp [setTo]
  | k+1 => by
    have ih := setTo_bit es j k
    simp only [setTo]
    rw [Nat.testBit_or, Bool.or_eq_true, ih, testBit_two, decide_eq_true_eq]
    constructor
    · rintro (⟨i, h1, h2⟩ | h)
      · exact ⟨i, by omega, h2⟩
      · exact ⟨k, by omega, h⟩
    · rintro ⟨i, h1, h2⟩
      by_cases e : i = k
      · subst e; exact .inr h2
      · exact .inl ⟨i, by omega, h2⟩
theorem setTo_lt {es : List Int} {m : Nat} : ∀ k, (∀ i, i < k → (nth es i).toNat < m) → setTo es k < 2 ^ m
  | 0, _ => by simp only [setTo]; exact Nat.two_pow_pos m
  | k+1, h => or_lt (setTo_lt k (fun i hi => h i (by omega))) (two_lt (h k (by omega)))
theorem card_setTo_le {es : List Int} {m : Nat} : ∀ k, card (setTo es k) m ≤ k
  | 0 => by
    have : ∀ m, card 0 m = 0 := by
      intro m
      induction m with
      | zero => rfl
      | succ m ih => simp [card, ih]
    simp [setTo, this]
  | k+1 => by
    have ih := card_setTo_le (es := es) (m := m) k
    simp only [setTo, card_or]
    split <;> omega
/-- is the number at k an element that was not there before? -/
def okN (n : Int) (es : List Int) (k : Nat) : Bool := elemB (nth es k) n && !(setTo es k).testBit (nth es k).toNat
/-- has a list each element once? -/
def permB (n : Int) (es : List Int) : Bool := decide ((es.length : Int) = n) && (List.range es.length).all (okN n es)
theorem permB_iff {n : Int} {es : List Int} : permB n es = true ↔ (es.length : Int) = n ∧ ∀ k, k < es.length → okN n es k = true := by simp [permB]
theorem permB_no {n : Int} {es : List Int} {k : Nat} (hk : k < es.length) (h : okN n es k = false) : permB n es = false := by
  rw [← Bool.not_eq_true, permB_iff]
  rintro ⟨_, h2⟩
  rw [h2 k hk] at h
  cases h
theorem okN_elem {n : Int} {es : List Int} {k : Nat} (h : okN n es k = true) : 0 ≤ nth es k ∧ nth es k < n := by
  simp only [okN, Bool.and_eq_true] at h
  exact elemB_iff.1 h.1
theorem okN_new {n : Int} {es : List Int} {k : Nat} (h : okN n es k = true) : (setTo es k).testBit (nth es k).toNat = false := by
  simp only [okN, Bool.and_eq_true, Bool.not_eq_true'] at h
  exact h.2
theorem card_perm {n : Int} {es : List Int} (h : ∀ k, k < es.length → okN n es k = true) : ∀ k, k ≤ es.length → card (setTo es k) n.toNat = k
  | 0, _ => by
    have := card_setTo_le (es := es) (m := n.toNat) 0
    omega
  | k+1, hk => by
    have ih := card_perm h k (by omega)
    have h1 := h k (by omega)
    have h2 := okN_elem h1
    have h3 := okN_new h1
    simp only [setTo, card_or, ih]
    rw [if_pos ⟨by omega, h3⟩]
/-- in a list that has each element once, each element stands somewhere -/
theorem perm_onto {n : Int} {es : List Int} (h : permB n es = true) {x : Nat} (hx : x < es.length) : ∃ i, i < es.length ∧ nth es i = (x : Int) := by
  rw [permB_iff] at h
  have hc := card_perm h.2 es.length (Nat.le_refl _)
  have hb := card_full n.toNat (by rw [hc]; omega) x (by omega)
  obtain ⟨i, hi, e⟩ := (setTo_bit es x es.length).1 hb
  have := okN_elem (h.2 i hi)
  exact ⟨i, hi, by omega⟩
theorem perm_inj {n : Int} {es : List Int} (h : permB n es = true) {i j : Nat} (hi : i < es.length) (hj : j < es.length) (e : nth es i = nth es j) : i = j := by
  rw [permB_iff] at h
  rcases Nat.lt_trichotomy i j with h1 | h1 | h1
  · have := okN_new (h.2 j hj)
    rw [(setTo_bit es _ j).2 ⟨i, h1, by rw [e]⟩] at this
    cases this
  · exact h1
  · have := okN_new (h.2 i hi)
    rw [(setTo_bit es _ i).2 ⟨j, h1, by rw [e]⟩] at this
    cases this
theorem full_bits (n i : Nat) : (2 ^ n - 1).testBit i = decide (i < n) := Nat.testBit_two_pow_sub_one n i
theorem names_eq {n : Int} {es : List Int} (h0 : 0 ≤ n) : permB n es = (decide ((es.length : Int) = n) && allB es 0 (n - 1) && decide (setTo es es.length = 2 ^ n.toNat - 1)) := by
  rw [Bool.eq_iff_iff]
  constructor
  · intro h
    have h' := permB_iff.1 h
    have hall : allB es 0 (n - 1) = true := by
      simp only [allB, List.all_eq_true]
      intro x hx
      obtain ⟨k, hk, rfl⟩ := mem_nth hx
      have := okN_elem (h'.2 k hk)
      rw [inB_iff]; omega
    have hset : setTo es es.length = 2 ^ n.toNat - 1 := by
      apply Nat.eq_of_testBit_eq
      intro i
      rw [full_bits, Bool.eq_iff_iff, setTo_bit, decide_eq_true_eq]
      constructor
      · rintro ⟨k, hk, rfl⟩
        have := okN_elem (h'.2 k hk)
        omega
      · intro hi
        obtain ⟨k, hk, e⟩ := perm_onto h (x := i) (by omega)
        exact ⟨k, hk, by rw [e]; rfl⟩
    simp [h'.1, hall, hset]
  · intro h
    simp only [Bool.and_eq_true, decide_eq_true_eq] at h
    obtain ⟨⟨h1, h2⟩, h3⟩ := h
    rw [permB_iff]
    refine ⟨h1, fun k hk => ?_⟩
    have hel : ∀ k, k < es.length → 0 ≤ nth es k ∧ nth es k < n := fun k hk => by have := allB_nth h2 hk; omega
    have hk1 := hel k hk
    simp only [okN, Bool.and_eq_true, Bool.not_eq_true']
    refine ⟨elemB_iff.2 hk1, ?_⟩
    -- were it there before, too few would be there in the end
    rw [← Bool.not_eq_true]
    intro hb
    have hle : ∀ m, m ≤ es.length → k < m → card (setTo es m) n.toNat ≤ m - 1 := by
      intro m
      induction m with
      | zero => intro _ hkm; omega
      | succ m ih =>
        intro hm hkm
        simp only [setTo, card_or]
        by_cases e : k = m
        · subst e
          rw [if_neg (by rintro ⟨_, h5⟩; rw [hb] at h5; cases h5)]
          have := card_setTo_le (es := es) (m := n.toNat) k
          omega
        · have := ih (by omega) (by omega)
          split <;> omega
    have h5 := hle es.length (Nat.le_refl _) hk
    rw [h3, card_all n.toNat (fun i hi => by rw [full_bits]; simpa using hi)] at h5
    omega

theorem ord_rel {n : Int} {xs : List Int} (h : ordB n xs = true) : RelP n xs := relB_p (ordB_iff.1 h).1

theorem card_mono {s t : Nat} : ∀ n, (∀ i, i < n → s.testBit i = true → t.testBit i = true) → card s n ≤ card t n
  | 0, _ => Nat.le_refl _
  | n+1, h => by
    have ih := card_mono n (fun i hi => h i (by omega))
    have h1 := h n (by omega)
    simp only [card]
    cases hs : s.testBit n
    · simp; split <;> omega
    · rw [h1 hs]; simp; omega
theorem card_lt {s t : Nat} : ∀ n, (∀ i, i < n → s.testBit i = true → t.testBit i = true) → (∃ i, i < n ∧ s.testBit i = false ∧ t.testBit i = true) → card s n < card t n
  | 0, _, ⟨i, hi, _⟩ => by omega
  | n+1, h, ⟨i, hi, h1, h2⟩ => by
    simp only [card]
    by_cases e : i = n
    · subst e
      have := card_mono i (fun j hj => h j (by omega))
      rw [h1, h2]; simp; omega
    · have ih := card_lt n (fun j hj => h j (by omega)) ⟨i, by omega, h1, h2⟩
      have h3 := h n (by omega)
      cases hs : s.testBit n
      · simp; split <;> omega
      · rw [h3 hs]; simp; omega
/-- may the element come next, when those of a set have come? -/
def firstOk (xs : List Int) (S i : Nat) : Bool := !S.testBit i && decide (sub (belowTo xs (i : Int) xs.length) S = 0)
theorem firstOk_iff {xs : List Int} {S i : Nat} : firstOk xs S i = true ↔ S.testBit i = false ∧ sub (belowTo xs (i : Int) xs.length) S = 0 := by simp [firstOk]
theorem below_sub {n : Int} {xs : List Int} (h : ordB n xs = true) {i j : Nat} (hj : j < xs.length) (hji : hasB (nth xs j) i = true) :
    card (belowTo xs (j : Int) xs.length) xs.length < card (belowTo xs (i : Int) xs.length) xs.length := by
  have ho := (ordB_iff.1 h).2
  refine card_lt _ (fun m hm hb => ?_) ⟨j, hj, ?_, ?_⟩
  · rw [belowTo_bit] at hb ⊢
    simp only [hm, decide_true, Bool.true_and] at hb ⊢
    have h1 := (okAtB_iff.1 (ho m hm)).2 j hj hb
    exact sub_zero.1 h1 _ hji
  · rw [belowTo_bit]
    simp only [hj, decide_true, Bool.true_and]
    exact (okAtB_iff.1 (ho j hj)).1
  · rw [belowTo_bit]
    simp only [hj, decide_true, Bool.true_and]
    exact hji
theorem first_some {n : Int} {xs : List Int} (h : ordB n xs = true) (S : Nat) : ∀ c i, i < xs.length → S.testBit i = false → card (belowTo xs (i : Int) xs.length) xs.length < c → ∃ m, m < xs.length ∧ firstOk xs S m = true
  | 0, _, _, _, hc => by omega
  | c+1, i, hi, hS, hc => by
    by_cases hz : sub (belowTo xs (i : Int) xs.length) S = 0
    · exact ⟨i, hi, firstOk_iff.2 ⟨hS, hz⟩⟩
    · rw [sub_zero] at hz
      simp only [Classical.not_forall] at hz
      obtain ⟨j, hb, hn⟩ := hz
      rw [belowTo_bit] at hb
      simp only [Bool.and_eq_true, decide_eq_true_eq] at hb
      have := below_sub h hb.1 hb.2
      exact first_some h S c j hb.1 (by simpa using hn) (by omega)
theorem first_ex {n : Int} {xs : List Int} (h : ordB n xs = true) {S : Nat} (hc : card S xs.length < xs.length) : ∃ m, m < xs.length ∧ firstOk xs S m = true := by
  by_cases hz : ∀ i, i < xs.length → S.testBit i = true
  · rw [card_all _ hz] at hc; omega
  · simp only [Classical.not_forall] at hz
    obtain ⟨i, hi, hn⟩ := hz
    exact first_some h S _ i hi (by simpa using hn) (Nat.lt_succ_self _)
/-- the first element that may come next -/
def nxt (xs : List Int) (S : Nat) : Nat := ((List.range xs.length).find? (firstOk xs S)).getD 0
theorem nxt_eq {xs : List Int} {S m : Nat} (hm : m < xs.length) (h : firstOk xs S m = true) (hb : ∀ j, j < m → firstOk xs S j = false) : nxt xs S = m := by
  have : (List.range xs.length).find? (firstOk xs S) = some m := by
    rw [List.find?_range_eq_some]
    exact ⟨h, by simpa using hm, fun j hj => by simp [hb j hj]⟩
  rw [nxt, this]; rfl
theorem nxt_ok {xs : List Int} {S : Nat} (h : ∃ m, m < xs.length ∧ firstOk xs S m = true) : nxt xs S < xs.length ∧ firstOk xs S (nxt xs S) = true ∧ ∀ j, j < nxt xs S → firstOk xs S j = false := by
  obtain ⟨m, hm, h1⟩ := h
  cases hf : (List.range xs.length).find? (firstOk xs S) with
  | none =>
    rw [List.find?_eq_none] at hf
    exact absurd h1 (hf m (by simpa using hm))
  | some x =>
    have hx := List.find?_range_eq_some.1 hf
    have e : nxt xs S = x := by rw [nxt, hf]; rfl
    rw [e]
    exact ⟨by simpa using hx.2.1, hx.1, fun j hj => by simpa using hx.2.2 j hj⟩
/-- the first k elements of the first extension, and the set of them -/
def firsts (xs : List Int) : Nat → List Int
  | 0 => []
  | k+1 => firsts xs k ++ [((nxt xs (setTo (firsts xs k) k) : Nat) : Int)]
theorem firsts_len (xs : List Int) : ∀ k, (firsts xs k).length = k
  | 0 => rfl
  | k+1 => by simp [firsts, firsts_len xs k]
theorem setTo_app {es : List Int} {x : Int} : ∀ k, k ≤ es.length → setTo (es ++ [x]) k = setTo es k
  | 0, _ => rfl
  | k+1, h => by
    simp only [setTo, setTo_app (es := es) (x := x) k (by omega)]
    have : nth (es ++ [x]) k = nth es k := by simp [nth, List.getD_eq_getElem?_getD, List.getElem?_append_left (show k < es.length by omega)]
    rw [this]
/-- the set of the first k elements of the first extension -/
def fset (xs : List Int) (k : Nat) : Nat := setTo (firsts xs k) k
theorem fset_next (xs : List Int) (k : Nat) : fset xs (k+1) = fset xs k ||| 2 ^ nxt xs (fset xs k) := by
  have hl := firsts_len xs k
  simp only [fset, setTo, firsts]
  rw [setTo_app k (by omega)]
  have : nth (firsts xs k ++ [((nxt xs (setTo (firsts xs k) k) : Nat) : Int)]) k = ((nxt xs (setTo (firsts xs k) k) : Nat) : Int) := by
    simp [nth, List.getD_eq_getElem?_getD, List.getElem?_append_right (show (firsts xs k).length ≤ k by omega), hl]
  rw [this]; rfl
theorem fset_card {n : Int} {xs : List Int} (h : ordB n xs = true) : ∀ k, k ≤ xs.length → card (fset xs k) xs.length = k ∧ fset xs k < 2 ^ xs.length
  | 0, _ => by
    have := card_setTo_le (es := firsts xs 0) (m := xs.length) 0
    exact ⟨by simp only [fset]; omega, Nat.two_pow_pos _⟩
  | k+1, hk => by
    have ih := fset_card h k (by omega)
    have h1 := nxt_ok (first_ex h (S := fset xs k) (by omega))
    have h2 := (firstOk_iff.1 h1.2.1).1
    rw [fset_next]
    exact ⟨by rw [card_or, ih.1, if_pos ⟨h1.1, h2⟩], or_lt ih.2 (two_lt h1.1)⟩
def fstL (n : Int) (xs : List Int) : List Int := if ordB n xs then firsts xs xs.length else []
theorem fstL_len (n : Int) (xs : List Int) : (fstL n xs).length ≤ 1048576 := by
  unfold fstL
  split
  · rename_i h
    have hp := ord_rel h
    rw [firsts_len]
    have := hp.len; have := hp.n1; omega
  · simp

/-- the numbers below three -/
theorem orUpTo3_any (w : World) :
    Calls Try.prog 133 #[.int .i64 3] w fun e w' => ∃ (a : Option Addr) (cap : Nat), e = .returned (.slice a 3 cap) ∧ OwnI w' w.heap.size (.slice a 3 cap) [0, 1, 2] ∧ Below w.heap.size w w' := by
  go_enter Try.func133, Try.ntmps133
  go_wp2_with fail
  go_loopw [3, 4] (fun v i wr => ∃ (k : Nat) (a : Option Addr) (cap : Nat), k ≤ 3 ∧ i = .int .i64 k ∧ v = .slice a k cap ∧ OwnI wr w.heap.size (.slice a k cap) (fmap (fun j => (j : Int)) k) ∧ Below w.heap.size w wr) (fun _ i _ => 3 - (intOf i).toNat)
  case atStart => exact ⟨0, none, 0, Nat.zero_le _, rfl, rfl, OwnI.nil _ _, Below.refl _ _⟩
  case round =>
    obtain ⟨k, a, cap, hk, rfl, rfl, ho, hb⟩ := hrel
    have hl := fmap_len (fun j => (j : Int)) k
    have HU : Hid (fmap (fun j => (j : Int)) (k+1) = fmap (fun j => (j : Int)) k ++ [(k : Int)]) := fmap_succ _ _
    have HL := Lib.hid (fmap_len (fun j => (j : Int)) (k+1))
    by_cases hlt : k < 3
    · have k1 : (k : Int) < 3 := by omega
      have hs := hb.size
      generalize fmap (fun j => (j : Int)) k = xs at ho hl HU
      go_wp2_with (at_builtin; refine push_at (v := .slice a k cap) (ys := xs) (z := (k : Int)) rfl _ _ rfl rfl ho rfl (by omega) hs ?_; intro v7 w7 o7 hg7 hat7; revert hat7)
      intro hat7
      rw [← HU.out] at o7
      obtain ⟨av7, cv7, ev7⟩ := o7.form
      rw [HL.out] at ev7
      subst ev7
      have hb7 := hb.trans (below_of_grown hg7 (fun c e => (ho.lt c e).1) hs)
      clear hat7 hg7
      go_wp2_with fail
      go_roundw
      case rel => exact ⟨k + 1, av7, cv7, by omega, by go_num, rfl, o7, hb7⟩
      case measure => simp [intOf]; omega
    · obtain rfl : k = 3 := by omega
      go_wp2_with fail
      go_ret
      exact ⟨a, cap, rfl, ho, hb⟩

theorem l1In_any (n lo hi : Int) (w : World) :
    Calls Try.prog 78 #[.int .i64 n, .int .i64 lo, .int .i64 hi] w fun e w' => e = .returned (.bool (inB n lo hi)) ∧ w = w' := by
  go_enter Try.func78, Try.ntmps78
  go_wp2
  all_goals (go_ret; exact ⟨ret_bool (by simp [inB]; try omega), rfl⟩)
theorem l1In_is {n lo hi : Int} {b : Bool} (h : inB n lo hi = b) (w : World) (m : Nat) :
    Calls Try.prog 78 #[.int .i64 n, .int .i64 lo, .int .i64 hi] (w.drewN m) fun e w' => e = .returned (.bool b) ∧ ∃ k, w' = w.drewN k :=
  Calls.quiet_of_same ((l1In_any n lo hi (w.drewN m)).mono (fun e w' hh => ⟨by rw [← h]; exact hh.1, hh.2.symm⟩))

theorem asGood_any (a : Option Addr) (xs : List Int) (cap : Nat) (w : World) (hx : Rd w a xs) (hcap : xs.length ≤ cap) :
    Calls Try.prog 89 #[.slice a xs.length cap] w fun e w' => e = .returned (.bool (ascB xs)) ∧ Below w.heap.size w w' := by
  have hlen := hx.len
  by_cases hl : xs.length ≤ 12
  · go_enter Try.func89, Try.ntmps89
    go_wp2_with fail
    go_loopw [10] (fun i wr => ∃ k : Nat, k ≤ xs.length ∧ i = .int .i64 k ∧ (∀ j, j < k → ascOk xs j = true) ∧ Below w.heap.size w wr) (fun i _ => xs.length - (intOf i).toNat)
    case atStart => exact ⟨0, Nat.zero_le _, rfl, fun j hj => by omega, Below.refl _ _⟩
    case round =>
      obtain ⟨k, hk, rfl, hall, hb⟩ := hrel
      have HA := Lib.hid hall
      clear hall
      by_cases hlt : k < xs.length
      · have hxr := hx.below hb
        obtain ⟨b, off, rfl, hbl, hc⟩ := hxr.cell k hlt
        have k1 : (k : Int) ≤ (cap : Int) := by omega
        have k0 : (0 : Int) ≤ (k : Int) := by omega
        cases hin : ascOk xs k
        · have HO : Hid (ascB xs = false) := ascB_no hlt hin
          have hin' : inB (nth xs k) 0 (bndTo xs k) = false := hin
          have HI := Lib.hid hin'
          clear hin hin'
          go_wp2_with fail
          refine (asBound_any _ xs k _ _ hxr hk).mono ?_
          rintro e w1 ⟨rfl, hb1⟩
          go_wp2_with fail
          refine (l1In_any _ _ _ _).mono ?_
          rintro e w' ⟨rfl, rfl⟩
          rw [HI.out]
          go_wp2_with fail
          go_ret
          exact ⟨ret_bool HO.out.symm, hb.trans (hb1.mono hb.size)⟩
        · have hin' : inB (nth xs k) 0 (bndTo xs k) = true := hin
          have HI := Lib.hid hin'
          have HM := Lib.hid hin
          clear hin hin'
          go_wp2_with fail
          refine (asBound_any _ xs k _ _ hxr hk).mono ?_
          rintro e w1 ⟨rfl, hb1⟩
          go_wp2_with fail
          refine (l1In_any _ _ _ _).mono ?_
          rintro e w' ⟨rfl, rfl⟩
          rw [HI.out]
          go_wp2_with fail
          go_roundw
          case rel =>
            refine ⟨k + 1, by omega, by go_num, fun j hj => ?_, hb.trans (hb1.mono hb.size)⟩
            by_cases e : j = k
            · rw [e]; exact HM.out
            · exact HA.out j (by omega)
          case measure => simp [intOf]; omega
      · obtain rfl : k = xs.length := by omega
        have HO : Hid (ascB xs = true) := ascB_iff.2 ⟨hl, HA.out⟩
        go_wp2_with fail
        go_ret
        exact ⟨ret_bool HO.out.symm, hb⟩
  · have HO := Lib.hid (ascB_long hl)
    go_enter Try.func89, Try.ntmps89
    go_wp2_with fail
    go_ret
    exact ⟨ret_bool HO.out.symm, Below.refl _ _⟩

/-- one row more at the end -/
theorem RowsP.snoc {w w' : World} {B C : Nat} {v v' u : Value} {vl : List Value} {xss : List (List Int)} {r : List Int} (h : RowsP w B v vl xss) (hr : OwnI w C u r) (hBC : B ≤ C) (hvC : ∀ c, v.ownBlock = some c → c < C) (hrC : ∀ k, k < xss.length → ∀ c, (valAt vl k).ownBlock = some c → c < C)
    (ho : w'.ownsRow B 26 1 v' (xss.length + 1) (vl ++ [u])) (hg : w.grownBy w' v.ownBlock) (hv' : v'.ownBlock = v.ownBlock ∨ ∃ m, w.heap.size ≤ m ∧ v'.ownBlock = some m) : RowsP w' B v' (vl ++ [u]) (xss ++ [r]) := by
  have hl := h.o.vlen
  have e1 : ∀ k, k < xss.length → valAt (vl ++ [u]) k = valAt vl k := fun k hk => by rw [valAt, valAt, List.getD_eq_getElem?_getD, List.getD_eq_getElem?_getD, List.getElem?_append_left (by omega)]
  have e2 : valAt (vl ++ [u]) xss.length = u := by rw [← hl]; simp [valAt]
  have r1 : ∀ k, k < xss.length → rowL (xss ++ [r]) k = rowL xss k := fun k hk => by rw [rowL, rowL, List.getD_eq_getElem?_getD, List.getD_eq_getElem?_getD, List.getElem?_append_left hk]
  have r2 : rowL (xss ++ [r]) xss.length = r := by simp [rowL]
  have hur := hr.lt
  refine ⟨⟨by rw [List.length_append, List.length_singleton]; exact ho, fun k hk => ?_, fun k hk c hc hc2 => ?_⟩, fun j k hjk hk c hc => ?_⟩
  · rw [List.length_append, List.length_singleton] at hk
    by_cases e : k = xss.length
    · subst e
      rw [e2, r2]
      exact (hr.mono hBC).kept hg (own_ne (fun c h1 h3 => by have := hvC c h3; have := (hur c h1).1; omega))
    · rw [e1 k (by omega), r1 k (by omega)]
      exact (h.o.row k (by omega)).kept hg (own_ne (fun c h1 h3 => h.o.apart k (by omega) c h1 h3))
  · rw [List.length_append, List.length_singleton] at hk
    by_cases e : k = xss.length
    · subst e
      rw [e2] at hc
      have h1 := hur c hc
      rcases hv' with h3 | ⟨m, hm, h3⟩
      · rw [h3] at hc2; have := hvC c hc2; omega
      · rw [h3] at hc2; simp only [Option.some.injEq] at hc2; omega
    · rw [e1 k (by omega)] at hc
      have h1 := ((h.o.row k (by omega)).lt c hc).2
      rcases hv' with h3 | ⟨m, hm, h3⟩
      · rw [h3] at hc2; exact h.o.apart k (by omega) c hc hc2
      · rw [h3] at hc2; simp only [Option.some.injEq] at hc2; omega
  · rw [List.length_append, List.length_singleton] at hk
    rw [e1 j (by omega)] at hc
    by_cases e : k = xss.length
    · subst e
      rw [e2]
      intro h3
      have := hrC j (by omega) c hc
      have := (hur c h3).1
      omega
    · rw [e1 k (by omega)]
      exact h.pair j k hjk (by omega) c hc
/-- an append of one row at a step of a region that draws its order; the new row's value lies somewhere -/
theorem step_push_row {ops : Array Oper} {o : Oper} {a : Act} {K : Act → World → Prop} {Q : Exit → Act → World → Prop} {E : Prop} (hgd : o.guard = none) (s x : Operand)
    (ho : o.op = .call { callee := .builtin .append, args := #[s, x], argTypes := #[58, 58] }) {W : World} {B C g n m cp : Nat} {ar : Option Addr} {v : Value} {vl : List Value} {xss : List (List Int)} {r : List Int}
    (hs : a.eval s = v) (hx : a.eval x = .slice (some ⟨g, 0, none⟩) 1 1) (hro : RowsP W B v vl xss) (hn : xss.length = n) (hrow : OwnI W C (.slice ar m cp) r) (hz : W.cell? ⟨g, 0, none⟩ = some (.slice ar m cp)) (h63 : n ≤ 1048576) (hBC : B ≤ C) (hC : C ≤ W.heap.size)
    (hvC : ∀ c, v.ownBlock = some c → c < C) (hrC : ∀ k, k < xss.length → ∀ c, (valAt vl k).ownBlock = some c → c < C)
    (h : ∀ g' cap w', RowsP w' B (.slice (some ⟨g', 0, none⟩) (n + 1) cap) (vl ++ [.slice ar m cp]) (xss ++ [r]) → W.grownBy w' v.ownBlock → K (a.put o.dst (.slice (some ⟨g', 0, none⟩) (n + 1) cap)) w') :
    if Region.wanted o (yielded ops a.tmps) = true then Oper.wp Try.prog o a W K Q else E := by
  subst hn
  obtain ⟨j0, hj0, hy0, hy1, hy2⟩ := info_parts infoSlice
  refine step_append_lies W hgd s x 58 ho B 26 j0 (.slice none 0 0) 1 24 Try.underlying58 hj0 hy0 hy1 hy2 rfl (by decide) v xss.length vl hs hro.o.own ⟨g, 0, none⟩ 1 1 [.slice ar m cp] hx rfl ?_ (by intro u hu; simp at hu; subst hu; rfl) (by omega) (by unfold maxLen; omega) (by omega) (by omega) W.heap.size rfl ?_
  · intro j u hj
    obtain ⟨hlt, e⟩ := List.getElem?_eq_some_iff.1 hj
    have h0 : j = 0 := by simpa using hlt
    subst h0
    simp at e
    subst e
    rw [Addr.add_lit]; simpa using hz
  · intro g' cap w' ho2 hg hat _
    refine h g' cap w' (hro.snoc hrow hBC hvC hrC ho2 hg ?_) hg
    rcases hat with h1 | h1
    · exact .inl (by rw [h1]; rfl)
    · exact .inr ⟨g', by omega, rfl⟩

theorem wpList_append_none {P : Program} {w : World} {ops : Array Oper} {rest : List Oper} {o : Oper} {a : Act} {Q : Exit → Act → World → Prop} (hgd : o.guard = none) (s x : Operand) (t : TypeId)
    (ho : o.op = .call { callee := .builtin .append, args := #[s, x], argTypes := #[t, t] })
    (base : Nat) (e : TypeId) (i : TypeInfo) (size : Nat) (ht : P.underlying t = some (.slice e)) (hi : P.info? e = some i)
    (v : Value) (n c : Nat) (xs : List Value) (hs : a.eval s = v) (hown : w.ownsRow base e size v n xs) (hx : a.eval x = .slice none 0 c)
    (h : wpList P ops Q rest (a.put o.dst v) w) : wpList P ops Q (o :: rest) a w := by
  refine wpList_plain hgd fun K hK => ?_
  have hrun : (Builtin.append_ #[t, t] o.type #[v, .slice none 0 c]).run P w = .ok v w := by
    rcases hown.2 with ⟨rfl, rfl⟩ | ⟨g, cap, cur, rfl, _, _, hnc, _⟩
    · simp [Builtin.append_, run_underlying ht, sizeOf, typeInfo, hi, Builtin.lenOf, Builtin.firstCells]
    · simp [Builtin.append_, run_underlying ht, sizeOf, typeInfo, hi, Builtin.lenOf, Builtin.firstCells, hnc, storeCells]
  unfold Oper.wp
  simp [execOp, ho, resolve, invoke, builtin, hs, hx, hrun, Result.andThen]
  exact hK _ _ h
theorem rd_news {w : World} {ad : Addr} {xs : List Int} (hx : Rd w (some ad) xs) : ∀ j u, (xs.map (Value.int .i64))[j]? = some u → w.cell? (ad.add j) = some u := by
  intro j u hj
  rw [List.getElem?_map, Option.map_eq_some_iff] at hj
  obtain ⟨x, hx1, rfl⟩ := hj
  obtain ⟨hlt, e⟩ := List.getElem?_eq_some_iff.1 hx1
  obtain ⟨b, off, e1, _, hc⟩ := hx.cell j hlt
  simp only [Option.some.injEq] at e1
  subst e1
  rw [Addr.add_lit, hc, nth_get xs j hlt, e]
theorem ints_one (xs : List Int) : ∀ u ∈ xs.map (Value.int .i64), u.oneCell' = true := by
  intro u hu
  obtain ⟨x, _, rfl⟩ := List.mem_map.1 hu
  rfl

theorem l1Own_any (a : Option Addr) (xs : List Int) (cap : Nat) (w : World) (hx : Rd w a xs) (hn : xs.length ≤ 1048576) :
    Calls Try.prog 130 #[.slice a xs.length cap] w fun e w' => ∃ a' cap', e = .returned (.slice a' xs.length cap') ∧ OwnI w' w.heap.size (.slice a' xs.length cap') xs ∧ Below w.heap.size w w' := by
  obtain ⟨i0, hi, hz0, hz1, hz2⟩ := info_parts infoInt
  have hown : (w.alloc (.cells #[] 3)).ownsRow w.heap.size 3 1 (.slice (some ⟨w.heap.size, 0, none⟩) 0 0) 0 [] := World.ownsRow_lit w #[] 0 (Nat.le_refl _) (by simp [maxLen]) (by simp)
  cases a with
  | none =>
    have h0 : xs = [] := by
      rcases xs with _ | ⟨x, t⟩
      · rfl
      · obtain ⟨b, off, e, _⟩ := hx.cell 0 (by simp)
        cases e
    subst h0
    go_enter Try.func130, Try.ntmps130
    go_wp2_with (at_builtin; refine wpList_append_none rfl _ _ 26 rfl w.heap.size 3 i0 1 Try.underlying26 hi _ 0 _ [] rfl hown rfl ?_)
    go_wp2_with fail
    go_ret
    exact ⟨_, _, rfl, hown, (by repeat (first | exact Below.refl _ _ | assumption | refine Below.alloc ?_ (by first | exact Nat.le_refl _ | (simp only [World.size_alloc, World.size_setCell, World.size_drew]; omega) | omega) _ | refine Below.setCell ?_ (by first | exact Nat.le_refl _ | (simp only [World.size_alloc, World.size_setCell, World.size_drew]; omega) | omega) _ | refine Below.drew ?_))⟩
  | some ad =>
    have hx1 := hx.alloc (.cells #[] 3)
    go_enter Try.func130, Try.ntmps130
    go_wp2_with (at_builtin; refine wpList_append_own _ rfl _ _ 26 rfl w.heap.size 3 i0 (.int .i64 0) 1 8 Try.underlying26 hi hz0 hz1 hz2 rfl (by decide) _ 0 [] rfl hown ad xs.length cap (xs.map (Value.int .i64)) rfl (by simp) ?c1 ?c2 ?c3 ?c4 ?c5 ?_)
    case c1 => exact rd_news hx1
    case c2 => exact ints_one xs
    case c3 => unfold maxLen; omega
    case c4 => omega
    case c5 => simp
    · intro v' w1 hown' hgrow _
      try simp only [Nat.zero_add, List.nil_append] at hown'
      have hb : Below w.heap.size w w1 := ((Below.refl _ _).alloc (Nat.le_refl _) _).grown hgrow (by simp) (fun b e => by simp [Value.ownBlock] at e; omega)
      obtain ⟨a', cap', rfl⟩ := OwnI.form (xs := xs) hown'
      have HO := Lib.hid hown'
      clear hown' hgrow hown
      go_wp2_with fail
      go_ret
      exact ⟨a', cap', rfl, HO.out, hb⟩

set_option maxRecDepth 100000 in
set_option maxHeartbeats 1000000 in
theorem maOwn_any (a : Option Addr) (xss : List (List Int)) (cap n m : Nat) (f : Nat → Nat → Int) (hf : xss = sqM f n m) (w : World) (hx : RdS w a xss) (hn : n ≤ 13) (hm : m ≤ 13) :
    Calls Try.prog 145 #[.agg #[.slice a n cap]] w fun e w' => ∃ a0 c0 vl, e = .returned (.agg #[.slice a0 n c0]) ∧ RowsP w' w.heap.size (.slice a0 n c0) vl (sqM f n m) ∧ Below w.heap.size w w' := by
  subst hf
  have hV0 := Var1.new (w.alloc (.cells #[.slice a n cap] 60)) (.slice none 0 0) 60
  have hO := Var1.new ((w.alloc (.cells #[.slice a n cap] 60)).alloc (.cells #[.slice none 0 0] 60)) (.slice none 0 0) 60
  have hb0 : Below w.heap.size w (((w.alloc (.cells #[.slice a n cap] 60)).alloc (.cells #[.slice none 0 0] 60)).alloc (.cells #[.slice none 0 0] 60)) := (by repeat (first | exact Below.refl _ _ | assumption | refine Below.alloc ?_ (by first | exact Nat.le_refl _ | (simp only [World.size_alloc, World.size_setCell, World.size_drew]; omega) | omega) _ | refine Below.setCell ?_ (by first | exact Nat.le_refl _ | (simp only [World.size_alloc, World.size_setCell, World.size_drew]; omega) | omega) _ | refine Below.drew ?_))
  have hV := hV0.alloc (.cells #[.slice none 0 0] 60)
  clear hV0
  simp only [World.size_alloc] at hV hO
  have HX := Lib.hid hx
  clear hx
  go_enter Try.func145, Try.ntmps145
  go_wp2_with fail
  go_loopw [10] (fun i wr => ∃ (k : Nat) (v : Value) (vl : List Value), k ≤ n ∧ i = .int .i64 k ∧ Var1 wr (w.heap.size + 2) v ∧ RowsP wr (w.heap.size + 3) v vl (sqM f k m) ∧ Var1 wr (w.heap.size + 1) (.slice none 0 0) ∧ Below w.heap.size w wr) (fun i _ => n - (intOf i).toNat)
  case atStart => exact ⟨0, .slice none 0 0, [], Nat.zero_le _, rfl, hO, RowsP.nil _ _, hV, hb0⟩
  case round =>
    clear hV hO hb0
    obtain ⟨k, v, vl, hk, rfl, hO, hro, hV, hb⟩ := hrel
    have hbs := hb.size
    have ⟨⟨zO, cO⟩, fO⟩ := hO
    obtain ⟨av, cv, ev⟩ := hro.o.form
    rw [sqM_len] at ev
    subst ev
    have HRO := Lib.hid hro
    have HO := Lib.hid hO
    have HV := Lib.hid hV
    by_cases hlt : k < n
    · obtain ⟨b0, off0, a', cap', rfl, hbl, hc, hr⟩ := (HX.out.below hb).row k (by rw [sqM_len]; exact hlt)
      rw [sqM_row hlt, fmap_len] at hc
      rw [sqM_row hlt] at hr
      have k1 : (k : Int) < (n : Int) := by omega
      have HN : Hid (sqM f (k+1) m = sqM f k m ++ [fmap (f k) m]) := sqM_succ _ _ _
      have HC : Hid (∀ W, Below wr.heap.size wr W → Calls Try.prog 130 #[.slice a' m cap'] W fun e w' => ∃ a2 c2, e = .returned (.slice a2 m c2) ∧ OwnI w' W.heap.size (.slice a2 m c2) (fmap (f k) m) ∧ Below W.heap.size W w') := fun W h => by
        have h1 := l1Own_any a' (fmap (f k) m) cap' W (hr.below h) (by rw [fmap_len]; omega)
        rw [fmap_len] at h1
        exact h1
      have hsz : w.heap.size + 3 ≤ wr.heap.size := by omega
      clear hro hO hV hr
      go_wp2_with fail
      go_region_law (first | (have _g := HR2; refine step_push_row (by rfl) _ _ (by rfl) (by rfl) (by rfl) (HR2.out.below ((Below.refl _ _).alloc (Nat.le_refl _) _) (Nat.le_refl _)) (sqM_len _ _ _) (ho2.alloc _) (by simp) (by omega) (by omega) (by simp; omega) (HRO.out.blk.1) (HRO.out.blk.2) ?_; intro g5 c5 w5 ho5 hg5; have hg6 := grown_alloc_set hg5; have hO5 := HO2.out.kept hg6 (ne_own (fun c e => by have := (HR2.out.o.lt c e).1; omega)); have ⟨⟨zO5, cO5⟩, fO5⟩ := hO5) | (go_simp; go_at_call 130; refine (HC.out _ (Joins.below_draws _ _ _)).mono ?_; rintro e w2 ⟨a2, c2, rfl, ho2', hb2⟩; have ht2 := (Joins.below_draws _ _ _).trans hb2; have hs2 := ht2.size; have ho2 := ho2'.mono (B' := wr.heap.size) (by simp); have HR2 := Lib.hid (HRO.out.below ht2 (Nat.le_refl _)); have HO2 := Lib.hid (HO.out.below ht2); have ⟨⟨zO2, cO2⟩, fO2⟩ := HO2.out; clear ho2' hb2))
      all_goals
        have hlo := HR2.out.o.lt
        have hV5 := (HV.out.below ht2).kept hg6 (ne_own (fun c e => by have := (hlo c e).1; omega))
        have b5 : Below w.heap.size w w5 := (hb.trans (ht2.mono hbs)).trans (below_of_grown hg6 (fun c e => by have := (hlo c e).1; omega) (by omega))
        have ho6 := ho5.setBelow (p := ⟨w.heap.size + 2, 0, none⟩) (show w.heap.size + 2 < w.heap.size + 3 by omega) (.slice (some ⟨g5, 0, none⟩) (k + 1) c5)
        have hO6 := hO5.set (.slice (some ⟨g5, 0, none⟩) (k + 1) c5)
        have hV6 := hV5.other (p := ⟨w.heap.size + 2, 0, none⟩) (.slice (some ⟨g5, 0, none⟩) (k + 1) c5) (show w.heap.size + 1 ≠ w.heap.size + 2 by omega)
        have b6 := b5.setCell (p := ⟨w.heap.size + 2, 0, none⟩) (show w.heap.size ≤ w.heap.size + 2 by omega) (.slice (some ⟨g5, 0, none⟩) (k + 1) c5)
        have H6 := Lib.hid (And.intro ho6 (And.intro hO6 (And.intro hV6 b6)))
        clear ho5 hg5 hg6 hlo hO5 hV5 ho6 hO6 hV6 HR2 ho2 HO2
        go_wp2_with fail
        go_roundw
        case rel => exact ⟨k + 1, _, _, by omega, by go_num, H6.out.2.1, by rw [HN.out]; exact H6.out.1, H6.out.2.2.1, H6.out.2.2.2⟩
        case measure => simp [intOf]; omega
    · obtain rfl : k = n := by omega
      have ⟨⟨zV, cV⟩, fV⟩ := hV
      clear hro hO hV
      go_wp2_with fail
      have hV2 := HV.out.set (.slice av k cv)
      have b2 := hb.setCell (p := ⟨w.heap.size + 1, 0, none⟩) (by simp) (.slice av k cv)
      refine bodyPost_ret (v := .agg #[.slice av k cv]) (by have ⟨⟨_, q1⟩, _⟩ := hV2; simp [results, Try.results145, go_sem, q1]) rfl ?_
      exact ⟨av, cv, vl, rfl, (HRO.out.setBelow (show w.heap.size + 1 < w.heap.size + 3 by omega) _).mono (by omega), b2⟩

set_option maxRecDepth 100000 in
theorem maTop_any (a : Option Addr) (xss : List (List Int)) (cap : Nat) (w : World) (hx : RdS w a xss) (hm : mxB xss = true) :
    Calls Try.prog 144 #[.agg #[.slice a xss.length cap]] w fun e w' => e = .returned (.int .i64 (topI xss)) ∧ Below w.heap.size w w' := by
  have HM := Lib.hid hm
  have h12 := mxB_small hm
  have HX := Lib.hid hx
  clear hm
  go_enter Try.func144, Try.ntmps144
  go_wp2_with fail
  go_loop [8] (fun i => ∃ k : Nat, k ≤ xss.length ∧ i = .int .i64 k ∧ Hid (∀ j, j < k → atM xss j (xss.length - 1) = 0)) (fun i => xss.length - (intOf i).toNat)
  case atStart => exact ⟨0, Nat.zero_le _, rfl, fun j hj => by omega⟩
  case round =>
    obtain ⟨k, hk, rfl, HZ⟩ := hrel
    by_cases hlt : k < xss.length
    · obtain ⟨b, off, a', cap', rfl, hbl, hc, hr⟩ := (HX.out.below (show Below w.heap.size w (w.alloc (.cells #[.slice a xss.length cap] 60)) from (by repeat (first | exact Below.refl _ _ | assumption | refine Below.alloc ?_ (by first | exact Nat.le_refl _ | (simp only [World.size_alloc, World.size_setCell, World.size_drew]; omega) | omega) _ | refine Below.setCell ?_ (by first | exact Nat.le_refl _ | (simp only [World.size_alloc, World.size_setCell, World.size_drew]; omega) | omega) _ | refine Below.drew ?_)))).row k hlt
      have hrl := mxB_len HM.out hlt
      obtain ⟨b2, off2, rfl, hbl2, hc2⟩ := hr.cell (xss.length - 1) (by omega)
      rw [hrl] at hc
      have k1 : (k : Int) < (xss.length : Int) := by omega
      have hcast : ((xss.length : Int) - 1) = ((xss.length - 1 : Nat) : Int) := by omega
      have hnn := (mxB_num HM.out (j := xss.length - 1) hlt (by omega)).1
      have HA : Hid (atM xss k (xss.length - 1) = nth (rowL xss k) (xss.length - 1)) := rfl
      rw [HA.out] at hnn
      by_cases hp : 0 < nth (rowL xss k) (xss.length - 1)
      · have H : Hid (topI xss = (k : Int)) := by
          rw [Hid, topI, if_neg (by omega), topN, firstNZ_at HZ.out (by rw [HA.out]; omega) hlt]
        clear hrl hr
        go_wp2_with fail
        go_ret
        exact ⟨ret_int H.out.symm, (by repeat (first | exact Below.refl _ _ | assumption | refine Below.alloc ?_ (by first | exact Nat.le_refl _ | (simp only [World.size_alloc, World.size_setCell, World.size_drew]; omega) | omega) _ | refine Below.setCell ?_ (by first | exact Nat.le_refl _ | (simp only [World.size_alloc, World.size_setCell, World.size_drew]; omega) | omega) _ | refine Below.drew ?_))⟩
      · have HN : Hid (atM xss k (xss.length - 1) = 0) := by rw [Hid, HA.out]; omega
        clear hrl hr
        go_wp2_with fail
        go_round
        case rel =>
          refine ⟨k + 1, by omega, by go_num, fun j hj => ?_⟩
          by_cases e : j = k
          · rw [e]; exact HN.out
          · exact HZ.out j (by omega)
        case measure => simp [intOf]; omega
    · obtain rfl : k = xss.length := by omega
      have H : Hid (topI xss = -1) := by
        by_cases e : xss.length = 0
        · rw [Hid, topI, if_pos e]
        · exfalso
          have h1 := topN_lt HM.out (by omega)
          rw [topN, firstNZ_all HZ.out] at h1
          omega
      clear hx
      go_wp2_with fail
      go_ret
      exact ⟨ret_int H.out.symm, (by repeat (first | exact Below.refl _ _ | assumption | refine Below.alloc ?_ (by first | exact Nat.le_refl _ | (simp only [World.size_alloc, World.size_setCell, World.size_drew]; omega) | omega) _ | refine Below.setCell ?_ (by first | exact Nat.le_refl _ | (simp only [World.size_alloc, World.size_setCell, World.size_drew]; omega) | omega) _ | refine Below.drew ?_))⟩

theorem OwnI.new (w : World) (xs : List Int) (h : xs.length ≤ 1048576) : OwnI (w.alloc (.cells (xs.map (Value.int .i64)).toArray 3)) w.heap.size (.slice (some ⟨w.heap.size, 0, none⟩) xs.length xs.length) xs :=
  ⟨by simp, .inr ⟨w.heap.size, xs.length, (xs.map (Value.int .i64)).toArray, rfl, Nat.le_refl _, heap_alloc_new w _, Nat.le_refl _, by unfold maxLen; omega, by simp, by simp [List.take_of_length_le]⟩⟩

theorem lit_own (w : World) (x : Int) (B : Nat) (hB : B ≤ w.heap.size) : (w.alloc (.cells #[.int .i64 x] 3)).ownsRow B 3 1 (.slice (some ⟨w.heap.size, 0, none⟩) 1 1) 1 [.int .i64 x] := by
  have h := (OwnI.new w [x] (by simp)).mono hB
  exact h

/-- an append of a whole slice of integers, a nil one too, at a step of a region that draws its order -/
theorem step_append_src {P : Program} {w : World} {ops : Array Oper} {o : Oper} {a : Act} {K : Act → World → Prop} {Q : Exit → Act → World → Prop} {E : Prop} (hgd : o.guard = none) (s x : Operand) (t : TypeId)
    (ho : o.op = .call { callee := .builtin .append, args := #[s, x], argTypes := #[t, t] })
    (base : Nat) (e : TypeId) (i : TypeInfo) (z : Value) (bytes : Nat) (ht : P.underlying t = some (.slice e)) (hi : P.info? e = some i) (hz : i.zero = some z)
    (hsize : i.size = 1) (hby : i.bytes = bytes) (hzs : z.cells.size = 1)
    (v : Value) (n : Nat) (xs : List Value) (hs : a.eval s = v) (hown : w.ownsRow base e 1 v n xs)
    (ad : Option Addr) (c : Nat) (R : List Int) (hx : a.eval x = .slice ad R.length c) (hrd : Rd w ad R)
    (h63 : n + R.length ≤ maxLen) (hbytes : (n + R.length) * bytes ≤ 140737488355328) (hbase : base ≤ w.heap.size)
    (h : ∀ v' w', w'.ownsRow base e 1 v' (n + R.length) (xs ++ R.map (Value.int .i64)) → w.grownBy w' v.ownBlock → K (a.put o.dst v') w') :
    if Region.wanted o (yielded ops a.tmps) = true then Oper.wp P o a w K Q else E := by
  have hw : Region.wanted o (yielded ops a.tmps) = true := by simp [Region.wanted, hgd]
  rw [if_pos hw]
  cases ad with
  | some ad => exact wp_append_own w s x t ho base e i z 1 bytes ht hi hz hsize hby hzs (by omega) v n xs hs hown ad R.length c (R.map (Value.int .i64)) hx (by rw [List.length_map, Nat.mul_one]) (rd_news hrd) (ints_one R) h63 hbytes hbase (fun v' w' h2 h3 _ => h v' w' h2 h3)
  | none =>
    have hR : R = [] := by
      rcases R with _ | ⟨y, ys⟩
      · rfl
      · obtain ⟨b, off, e, _⟩ := hrd.cell 0 (by simp)
        cases e
    subst hR
    have hrun : (Builtin.append_ #[t, t] o.type #[v, .slice none 0 c]).run P w = .ok v w := by
      rcases hown.2 with ⟨rfl, rfl⟩ | ⟨g, cap, cur, rfl, _, _, hnc, _⟩
      · simp [Builtin.append_, run_underlying ht, sizeOf, typeInfo, hi, Builtin.lenOf, Builtin.firstCells]
      · simp [Builtin.append_, run_underlying ht, sizeOf, typeInfo, hi, Builtin.lenOf, Builtin.firstCells, hnc, storeCells]
    have h2 := h v w (by simpa using hown) (World.grownBy.refl _ _)
    have hx' : a.eval x = .slice none 0 c := hx
    unfold Oper.wp
    simp [execOp, ho, resolve, invoke, builtin, hs, hx', hrun, Result.andThen]
    exact h2

theorem l1Own_take (a : Option Addr) (xs : List Int) (k cap : Nat) (w : World) (hx : Rd w a xs) (hk : k ≤ xs.length) (hn : k ≤ 1048576) :
    Calls Try.prog 130 #[.slice a k cap] w fun e w' => ∃ a' cap', e = .returned (.slice a' k cap') ∧ OwnI w' w.heap.size (.slice a' k cap') (xs.take k) ∧ Below w.heap.size w w' := by
  have hl : (xs.take k).length = k := by simp; omega
  have h := l1Own_any a (xs.take k) cap w (hx.take k) (by rw [hl]; exact hn)
  rw [hl] at h
  exact h

theorem Rd.drop {w : World} {ad : Addr} {xs : List Int} (h : Rd w (some ad) xs) (k : Nat) : Rd w (some (ad.add k)) (xs.drop k) :=
  ⟨Nat.le_trans (by rw [List.length_drop]; omega) h.len, fun j hj => by
    have hj' : k + j < xs.length := by rw [List.length_drop] at hj; omega
    obtain ⟨b, off, e, hl, hc⟩ := h.cell (k + j) hj'
    simp only [Option.some.injEq] at e
    subst e
    refine ⟨b, off + k, by rw [Addr.add_lit], hl, ?_⟩
    rw [Nat.add_assoc, hc]
    simp [nth, List.getD_eq_getElem?_getD, List.getElem?_drop]⟩

set_option maxRecDepth 100000 in
theorem maWide_any (a : Option Addr) (xs : List Int) (cap x : Nat) (w : World) (hr : Rd w a xs) (hcap : xs.length ≤ cap) (hp : 0 < xs.length) (hx : x ≤ xs.length) (hn : xs.length ≤ 12) :
    Calls Try.prog 146 #[.slice a xs.length cap, .int .i64 (x : Int)] w fun e w' => ∃ a' c', e = .returned (.slice a' (xs.length + 1) c') ∧ OwnI w' w.heap.size (.slice a' (xs.length + 1) c') (xs.take x ++ [0] ++ xs.drop x) ∧ Below w.heap.size w w' := by
  obtain ⟨i0, hi, hz0, hz1, hz2⟩ := info_parts infoInt
  have HX := Lib.hid hr
  obtain ⟨b, off, rfl, hbl, _⟩ := hr.cell 0 (by omega)
  have hxc : x ≤ cap := by omega
  have HL : Hid ((xs.take x ++ [0] ++ xs.drop x).length = xs.length + 1) := by rw [Hid, List.length_append, List.length_append, List.length_take, List.length_drop, List.length_singleton]; omega
  have HDR : Hid (∀ W A, Below w.heap.size w W → (if cap = x then some (⟨b, off, none⟩ : Addr) else some ⟨b, off + x, none⟩) = some A → Rd W (some A) (xs.drop x)) := fun W A hb hA => by
    have h1 := (HX.out.below hb).drop x
    by_cases h9 : cap = x
    · rw [if_pos h9] at hA
      have e : xs.drop x = [] := List.drop_eq_nil_of_le (by omega)
      rw [e]
      exact ⟨by simp, fun k hk => by simp at hk⟩
    · rw [if_neg h9] at hA
      simp only [Option.some.injEq] at hA
      subst hA
      rw [Addr.add_lit] at h1
      exact h1
  obtain ⟨A, hA⟩ : ∃ A : Addr, (if cap = x then some (⟨b, off, none⟩ : Addr) else some ⟨b, off + x, none⟩) = some A := by
    by_cases h9 : cap = x
    · exact ⟨_, if_pos h9⟩
    · exact ⟨_, if_neg h9⟩
  have HA := Lib.hid hA
  have htl : (xs.take x).length = x := by rw [List.length_take]; omega
  have HTL := Lib.hid htl
  have htl1 : (xs.take x ++ [0]).length = x + 1 := by rw [List.length_append, htl]; rfl
  have HTL1 := Lib.hid htl1
  have hwr : IntKind.i64.wrap (x : Int) = (x : Int) := by rw [i64_wrap, IntWalk.wrap64_in _ ⟨by omega, by omega⟩]
  clear htl htl1
  go_enter Try.func146, Try.ntmps146
  go_wp2_with fail
  go_region_law (first
    | (have _g := ho5; refine step_append_src (by rfl) _ _ _ (by rfl) w.heap.size 3 i0 (.int .i64 0) 8 Try.underlying26 hi hz0 hz1 hz2 rfl (.slice (some ⟨g5, 0, none⟩) (x + 1) c5) (x + 1) ((xs.take x ++ [0]).map (Value.int .i64)) (by rfl) (by first | exact ho5r | exact ownsRow_bel ho5r (Below.refl _ _).drew (Nat.le_refl _)) (some A) (cap - x) (xs.drop x) (by simp [Act.eval, Act.put]) (HDR.out _ A (by first | exact b5 | exact b5.drew) HA.out) (by rw [List.length_drop]; unfold maxLen; omega) (by rw [List.length_drop]; omega) (by have := b5.size; omega) ?_; intro v6 w6 ho6 hg6)
    | (have _g := NW; refine step_push (by rfl) _ _ (by rfl) (by rfl) (by rfl) (by first | exact ho3 | exact ho3.below (Joins.below_draws _ _ _) (Nat.le_refl _)) (by exact HTL.out) (by exact NW) (by omega) (by exact ht3.size) ?_; intro g5 c5 w5 ho5 hg5 hat5; have b5 : Below w.heap.size w w5 := ht3.trans (below_of_grown hg5 (fun c e => (ho3.lt c e).1) ht3.size); have ho5r : w5.ownsRow w.heap.size 3 1 (.slice (some ⟨g5, 0, none⟩) (x + 1) c5) (x + 1) ((xs.take x ++ [0]).map (Value.int .i64)) := (by have h := ho5; unfold OwnI at h; rw [HTL1.out] at h; exact h))
    | (have _g := ho3; refine step_push (by rfl) _ _ (by rfl) (by rfl) (by rfl) (by exact ho3.alloc _) (by exact HTL.out) (by simp; rfl) (by omega) (by have := ht3.size; simp; omega) ?_; intro g5 c5 w5 ho5 hg5 hat5; have b5 : Below w.heap.size w w5 := ht3.trans (below_of_grown (grown_alloc_set hg5) (fun c e => (ho3.lt c e).1) ht3.size); have ho5r : w5.ownsRow w.heap.size 3 1 (.slice (some ⟨g5, 0, none⟩) (x + 1) c5) (x + 1) ((xs.take x ++ [0]).map (Value.int .i64)) := (by have h := ho5; unfold OwnI at h; rw [HTL1.out] at h; exact h))
    | (go_simp; go_at_call 130; refine (l1Own_take _ xs x _ _ (by first | exact HX.out.below (Joins.below_draws _ _ _) | exact (HX.out.below (Joins.below_draws _ _ _)).alloc _) (by omega) (by omega)).mono ?_; rintro e w3 ⟨a3, c3, rfl, ho3', hb3⟩; have ht3 : Below w.heap.size w w3 := (by first | exact below_drew hb3 | exact below_after hb3); have ho3 := ho3'.mono (B' := w.heap.size) (by simp); (try have NW := news_after hb3); clear ho3' hb3))
  all_goals
    have hU := World.ownsRow.lt ho5r
    have b6 : Below w.heap.size w w6 := b5.trans (below_of_grown hg6 (fun c e => (hU c e).1) b5.size)
    have o6 : OwnI w6 w.heap.size v6 (xs.take x ++ [0] ++ xs.drop x) := by
      unfold OwnI
      rw [List.map_append, List.length_append, HTL1.out]
      exact ho6
    obtain ⟨a6, c6, e6⟩ := o6.form
    rw [HL.out] at e6
    subst e6
    clear ho6 hg6 hU ho5 ho5r
    go_wp2_with fail
    go_ret
    exact ⟨a6, c6, rfl, o6, b6⟩

set_option maxRecDepth 100000 in
set_option maxHeartbeats 2000000 in
theorem maGrow_any (a : Option Addr) (xss : List (List Int)) (cap x : Nat) (w : World) (hx : RdC w a xss) (hm : mxB xss = true) (hxl : x ≤ xss.length) :
    Calls Try.prog 102 #[.agg #[.slice a xss.length cap], .int .i64 (x : Int)] w fun e w' => ∃ a0 c0 vl, e = .returned (.agg #[.slice a0 (grL xss x).length c0]) ∧ RowsP w' w.heap.size (.slice a0 (grL xss x).length c0) vl (grL xss x) ∧ Below w.heap.size w w' := by
  obtain ⟨i0, hi, hz0, hz1, hz2⟩ := info_parts infoInt
  have hlen := hx.rd.len
  have hV := Var1.new (w.alloc (.cells #[.slice a xss.length cap] 60)) (.slice none 0 0) 60
  have hb0 : Below w.heap.size w ((w.alloc (.cells #[.slice a xss.length cap] 60)).alloc (.cells #[.slice none 0 0] 60)) := (by repeat (first | exact Below.refl _ _ | assumption | refine Below.alloc ?_ (by first | exact Nat.le_refl _ | (simp only [World.size_alloc, World.size_setCell, World.size_drew]; omega) | omega) _ | refine Below.setCell ?_ (by first | exact Nat.le_refl _ | (simp only [World.size_alloc, World.size_setCell, World.size_drew]; omega) | omega) _ | refine Below.drew ?_))
  have hA : Box1 ((w.alloc (.cells #[.slice a xss.length cap] 60)).alloc (.cells #[.slice none 0 0] 60)) w.heap.size (.slice a xss.length cap) := (Box1.new w _ _).below ((Below.refl _ _).alloc (Nat.le_refl _) _)
  rw [World.size_alloc] at hV
  have h12 := mxB_small hm
  have HE := Lib.hid (mx_eta hm)
  have HNUMB := Lib.hid (fun i j (hi : i < xss.length) (hj : j < xss.length) => mxB_num hm hi (j := j) hj)
  have HTL := Lib.hid (fun (h : 0 < xss.length) => topN_lt hm h)
  have HG := Lib.hid (grL_eq hm hxl)
  have HMT := Lib.hid (fun W (h : RdS W a xss) => maTop_any a xss cap W h hm)
  have HL : Hid (∀ k, k < xss.length → (rowL xss k).length = xss.length) := fun k hk => mxB_len hm hk
  have HOWN := Lib.hid (fun W (h : RdS W a xss) => maOwn_any a xss cap xss.length xss.length (atM xss) HE.out W h (by omega) (by omega))
  have hrowE : ∀ k, k < xss.length → rowL xss k = fmap (atM xss k) xss.length := fun k hk => by
    have h := list_fmap (rowL xss k)
    rw [mxB_len hm hk] at h
    exact h
  have HRE := Lib.hid hrowE
  obtain ⟨f, hf⟩ : ∃ f, f = atM xss := ⟨_, rfl⟩
  rw [← hf] at HNUMB HG HE HOWN HRE
  have HX := Lib.hid hx
  obtain ⟨N, hN⟩ : ∃ N, N = xss.length := ⟨_, rfl⟩
  have HN := Lib.hid hN
  have HTP : Hid (topI xss = if N = 0 then -1 else ((topN xss : Nat) : Int)) := by rw [Hid, topI, hN]
  rw [← hN] at hlen h12 HNUMB HTL HE HOWN HRE HG HL HMT hV hb0 hA hxl ⊢
  clear hm hx hf hrowE hN
  obtain ⟨M, hM⟩ : ∃ M, M = N + 1 := ⟨_, rfl⟩
  have HMM := Lib.hid hM
  go_enter Try.func102, Try.ntmps102
  go_wp2_with fail
  refine (HMT.out _ (HX.out.rd.below hb0)).mono ?_
  rintro e w1 ⟨rfl, hb⟩
  have b1 : Below w.heap.size w w1 := hb0.trans (hb.mono (by simp; omega))
  have hV1 := hV.below hb
  have hA1 := hA.below hb
  have ⟨zA1, cA1⟩ := hA1
  have hz1w : w.heap.size + 2 ≤ w1.heap.size := by have := hb.size; simp at this; omega
  have HV1 := Lib.hid hV1
  clear hb hV hA hb0 hV1 HMT
  by_cases ht : (x : Int) ≤ topI xss
  · have HSH : Hid (grL xss x = sqM (grAI f N x) N N) := by rw [Hid, HG.out, if_pos ht]
    rw [HTP.out] at ht ⊢
    have hpos : 0 < N := by
      apply Classical.byContradiction
      intro h
      rw [if_pos (by omega)] at ht
      omega
    rw [if_neg (by omega)] at ht ⊢
    have htl := HTL.out hpos
    have hxN1 : x < N := by omega
    obtain ⟨T, hT⟩ : ∃ T, T = topN xss := ⟨_, rfl⟩
    rw [← hT] at ht htl ⊢
    have hN1 : N - 1 < N := by omega
    have hcast : ((N : Int) - 1) = ((N - 1 : Nat) : Int) := by omega
    clear hT hM
    go_wp2_with fail
    refine (HOWN.out _ (HX.out.rd.below b1)).mono ?_
    rintro e w2 ⟨a0, c0, vl, rfl, hro, hb2⟩
    have b2 := b1.trans (hb2.mono b1.size)
    have hV2 := (HV1.out.below hb2).alloc (.cells #[.slice a0 N c0] 60)
    have hB2 := Box1.new w2 (.slice a0 N c0) 60
    have b2' := b2.alloc b2.size (.cells #[.slice a0 N c0] 60)
    have hro2 := (hro.below ((Below.refl _ _).alloc (Nat.le_refl _) (.cells #[.slice a0 N c0] 60)) (Nat.le_refl _)).mono (B' := w.heap.size + 2) (by omega)
    have hblk := hro.blk
    obtain ⟨g4, e4, hg4, hg5, hc4, hf4⟩ := hro2.outer (k := x) (by rw [sqM_len]; exact hxN1)
    subst e4
    obtain ⟨g6, c6, e6, hg6, hg7, hc6, hf6, hnew⟩ := hro2.num (i := x) (j := N - 1) (by rw [sqM_len]; exact hxN1) (by rw [sqM_rlen hxN1]; omega)
    have hne6 : g6 ≠ w2.heap.size := fun h => by
      have := hblk.2 x (by rw [sqM_len]; exact hxN1) g6 (by rw [e6]; rfl)
      omega
    rw [e6, sqM_rlen hxN1] at hc4
    rw [sqM_at hxN1 hN1] at hc6
    have hset := hnew (f x (N - 1) + 1)
    rw [setM_sq hxN1 hN1] at hset
    have hset2 : RowsP ((w2.alloc (.cells #[.slice (some ⟨g4, 0, none⟩) N c0] 60)).setCell ⟨g6, N - 1, none⟩ (.int .i64 (f x (N - 1) + 1))) (w.heap.size + 2) (.slice (some ⟨g4, 0, none⟩) N c0) vl (sqM (grAI f N x) N N) := hset
    have b4 := b2'.setCell (p := ⟨g6, N - 1, none⟩) (show w.heap.size ≤ g6 by omega) (.int .i64 (f x (N - 1) + 1))
    have hV4 := hV2.other (p := ⟨g6, N - 1, none⟩) (.int .i64 (f x (N - 1) + 1)) (show w.heap.size + 1 ≠ g6 by omega)
    have hB4 : Box1 ((w2.alloc (.cells #[.slice (some ⟨g4, 0, none⟩) N c0] 60)).setCell ⟨g6, N - 1, none⟩ (.int .i64 (f x (N - 1) + 1))) w2.heap.size (.slice (some ⟨g4, 0, none⟩) N c0) := hB2.kept (grown_set _ _ _) (by simp; omega)
    have ⟨z0, z9⟩ := HNUMB.out x (N - 1) hxN1 hN1
    obtain ⟨Z, hZ⟩ : ∃ Z, Z = f x (N - 1) := ⟨_, rfl⟩
    rw [← hZ] at hc6 hset2 b4 hV4 hB4 z0 z9
    have HS4 := Lib.hid hset2
    have HV4 := Lib.hid hV4
    have ⟨⟨zV4, cV4⟩, fV4⟩ := hV4
    have ⟨zB2, cB2⟩ := hB2
    have ⟨zB4, cB4⟩ := hB4
    clear hro hro2 hnew hset hset2 hV2 hV4 hb2 e6 hZ hblk hB2 hB4 cA1
    go_wp2_with fail
    have hV6 := HV4.out.set (.slice (some ⟨g4, 0, none⟩) N c0)
    have b6 := b4.setCell (p := ⟨w.heap.size + 1, 0, none⟩) (by simp) (.slice (some ⟨g4, 0, none⟩) N c0)
    refine bodyPost_ret (v := .agg #[.slice (some ⟨g4, 0, none⟩) N c0]) (by have ⟨⟨_, q1⟩, _⟩ := hV6; simp [results, Try.results102, go_sem, q1]) rfl ?_
    exact ⟨some ⟨g4, 0, none⟩, c0, vl, by rw [HSH.out, sqM_len], by rw [HSH.out, sqM_len]; exact (HS4.out.setBelow (show w.heap.size + 1 < w.heap.size + 2 by omega) _).mono (by omega), b6⟩
  · have HSH : Hid (grL xss x = sqM (grBI f N x) M M) := by rw [Hid, HG.out, if_neg ht, hM]
    have hO1 := Var1.new w1 (.slice none 0 0) 60
    have bb1 : Below w1.heap.size w1 (w1.alloc (.cells #[.slice none 0 0] 60)) := (by repeat (first | exact Below.refl _ _ | assumption | refine Below.alloc ?_ (by first | exact Nat.le_refl _ | (simp only [World.size_alloc, World.size_setCell, World.size_drew]; omega) | omega) _ | refine Below.setCell ?_ (by first | exact Nat.le_refl _ | (simp only [World.size_alloc, World.size_setCell, World.size_drew]; omega) | omega) _ | refine Below.drew ?_))
    have HV2 := Lib.hid (HV1.out.below bb1)
    have HO1 := Lib.hid hO1
    have HB1 := Lib.hid (b1.trans (bb1.mono b1.size))
    have hA2 := hA1.below bb1
    have HA2 := Lib.hid hA2
    have ⟨zA2, cA2⟩ := hA2
    obtain ⟨b4, hb4⟩ : ∃ b4, b4 = w1.heap.size := ⟨_, rfl⟩
    have HB4 := Lib.hid hb4
    have hz4 : w.heap.size + 2 ≤ b4 := by omega
    rw [← hb4] at HO1
    generalize topI xss = tI at ht ⊢
    have hcM : ((N : Int) + 1) = (M : Int) := by omega
    have hNM : N < M := by omega
    have hM13 : M ≤ 13 := by omega
    clear hb4 hO1 bb1 hA2 HOWN hM b1
    go_wp2_with fail
    go_loopw [8] (fun i wr => ∃ (k : Nat) (v : Value) (vl : List Value), k ≤ M ∧ i = .int .i64 k ∧ Var1 wr b4 v ∧ RowsP wr (b4 + 1) v vl (sqM (grBI f N x) k M) ∧ Var1 wr (w.heap.size + 1) (.slice none 0 0) ∧ Below w.heap.size w wr ∧ Box1 wr w.heap.size (.slice a N cap)) (fun i _ => M - (intOf i).toNat)
    case atStart => exact ⟨0, .slice none 0 0, [], Nat.zero_le _, rfl, HO1.out, RowsP.nil _ _, HV2.out, HB1.out, HA2.out⟩
    case round =>
      rw [← HB4.out]
      obtain ⟨k, v, vl, hk, rfl, hO, hro, hV, hb, hA⟩ := hrel
      have HA := Lib.hid hA
      have ⟨zA, cA⟩ := hA
      clear hA
      have hbs := hb.size
      have hO9 := hO.1.1
      have HRO := Lib.hid hro
      obtain ⟨av, cv, ev⟩ := hro.o.form
      rw [sqM_len] at ev
      subst ev
      have HO := Lib.hid hO
      have HV := Lib.hid hV
      by_cases hlt : k < M
      · skip
        have k0 : (k : Int) ≤ (N : Int) := by omega
        have HN1 : Hid (sqM (grBI f N x) (k+1) M = sqM (grBI f N x) k M ++ [fmap (grBI f N x k) M]) := sqM_succ _ _ _
        have h63 : (sqM (grBI f N x) k M).length ≤ 1048576 := by rw [sqM_len]; omega
        obtain ⟨W1, hW1⟩ : ∃ x : World, x = wr := ⟨_, rfl⟩
        subst hW1
        have ⟨⟨zO, cO⟩, fO⟩ := hO
        by_cases hkx : k = x
        · have hkk : ((k : Int) == (x : Int)) = true := by simp [hkx]
          have HRW : Hid ((List.replicate M (0:Int)).set N 1 = fmap (grBI f N x k) M) := by rw [Hid, hkx, HMM.out]; exact gr_mid
          clear hkx hro hO hV
          go_wp2_with (at_make; refine wpList_make_full _ rfl (.tmp 69) (.tmp 69) 26 rfl W1.heap.size 3 i0 (.int .i64 0) 1 Try.underlying26 hi hz0 hz1 .i64 .i64 _ _ M rfl rfl rfl rfl (by rw [hz2]; omega) (by unfold maxLen; omega) (Nat.le_refl _) ?_)
          intro w3 hown hgrow
          have hb3 : Below W1.heap.size W1 w3 := (Below.refl _ _).grown hgrow (Nat.le_refl _) (fun k h => by cases h)
          have hown1 := made_row (fun _ => 0) (by rw [Nat.mul_one]; exact hown)
          rw [show rowF (fun _ => 0) M 0 = List.replicate M (0:Int) by simp [rowF, fmap]] at hown1
          have hlr : (List.replicate M (0:Int)).length = M := List.length_replicate
          have ⟨cN, fN⟩ := hown1.at' hlr.symm (i := N) (by omega)
          have hput := (hown1.put hlr.symm N 1).1
          rw [HRW.out] at hput
          have hbU := hb3.setCell (p := ⟨W1.heap.size, N, none⟩) (Nat.le_refl _) (.int .i64 1)
          have HU3 := Lib.hid hput
          have HRO3 := Lib.hid (HRO.out.below hbU (Nat.le_refl _))
          have hO3 := HO.out.below hbU
          have ⟨⟨zO2, cO2⟩, fO2⟩ := HO.out.below hb3
          have ⟨⟨zO3, cO3⟩, fO3⟩ := hO3
          have HO3 := Lib.hid hO3
          have HV3 := Lib.hid (HV.out.below hbU)
          have HA3 := Lib.hid (HA.out.below hbU)
          have HB3 := Lib.hid (hb.trans (hbU.mono hbs))
          clear hown hgrow hown1 hlr hput hO3
          go_wp2_with (at_builtin; refine push_row (v := .slice av k cv) (C := W1.heap.size) rfl _ _ rfl rfl HRO3.out HU3.out (by first | rfl | (simp only [World.size_setCell]; rfl) | simp [Act.eval]) h63 (by omega) (by have := hbU.size; omega) (fun c e => (HRO.out.blk.1 c e)) (fun i hi c e => HRO.out.blk.2 i hi c e) ?_)
          intro v5 w5 ho5 hg5
          have hlo := HRO3.out.o.lt
          have hO5 := HO3.out.kept hg5 (ne_own (fun c e => by have := (hlo c e).1; omega))
          have hV5 := HV3.out.kept hg5 (ne_own (fun c e => by have := (hlo c e).1; omega))
          have b5 : Below w.heap.size w w5 := HB3.out.trans (below_of_grown hg5 (fun c e => by have := (hlo c e).1; omega) (by have := HB3.out.size; omega))
          obtain ⟨a5, c5, e5⟩ := ho5.o.form
          subst e5
          have ⟨⟨zO5, cO5⟩, fO5⟩ := hO5
          obtain ⟨L5, hL5⟩ : ∃ L5, L5 = (sqM (grBI f N x) k M ++ [fmap (grBI f N x k) M]).length := ⟨_, rfl⟩
          rw [← hL5] at ho5 ⊢
          have ho6 := ho5.setBelow (p := ⟨b4, 0, none⟩) (show b4 < b4 + 1 by omega) (.slice a5 L5 c5)
          have hO6 := hO5.set (.slice a5 L5 c5)
          have HA6 := Lib.hid ((HA3.out.kept hg5 (ne_own (fun c e => by have := (hlo c e).1; omega))).kept (grown_set w5 ⟨b4, 0, none⟩ (.slice a5 L5 c5)) (by simp; omega))
          have hV6 := hV5.other (p := ⟨b4, 0, none⟩) (.slice a5 L5 c5) (show w.heap.size + 1 ≠ b4 by omega)
          have b6 := b5.setCell (p := ⟨b4, 0, none⟩) (show w.heap.size ≤ b4 by omega) (.slice a5 L5 c5)
          have H6 := Lib.hid (And.intro ho6 (And.intro hO6 (And.intro hV6 b6)))
          clear ho5 hg5 hlo hO5 hV5 ho6 hO6 hV6 hL5
          go_wp2_with fail
          go_roundw
          case rel => exact ⟨k + 1, _, _, by omega, by go_num, H6.out.2.1, by rw [HN1.out]; exact H6.out.1, H6.out.2.2.1, H6.out.2.2.2, HA6.out⟩
          case measure => simp [intOf]; omega
        · have hkk : ((k : Int) == (x : Int)) = false := by simp; omega
          by_cases hkx2 : x < k
          · have g1 : (x : Int) < (k : Int) := by omega
            have hxN : x ≤ N := by omega
            obtain ⟨j, hj⟩ : ∃ j, j = k - 1 := ⟨_, rfl⟩
            have hcj : ((k : Int) - 1) = (j : Int) := by omega
            have hcj2 : IntKind.i64.wrap (j : Int) = (j : Int) := by rw [i64_wrap, IntWalk.wrap64_in _ ⟨by omega, by omega⟩]
            have hjN : j < N := by omega
            obtain ⟨b5, off5, a5, cap5, rfl, hbl5, hc5, hr5, hle5⟩ := (HX.out.below hb).row (k := j) (by rw [← HN.out]; exact hjN)
            rw [HL.out j hjN] at hc5 hle5
            rw [HRE.out j hjN] at hr5
            have HNR : Hid (∀ W, Below W1.heap.size W1 W → Calls Try.prog 146 #[.slice a5 N cap5, .int .i64 (x : Int)] W fun e w' => ∃ a' c', e = .returned (.slice a' M c') ∧ OwnI w' W.heap.size (.slice a' M c') (fmap (grBI f N x k) M) ∧ Below W.heap.size W w') := fun W h => by
              have h1 := maWide_any a5 (fmap (f j) N) cap5 x W (hr5.below h) (by rw [fmap_len]; exact hle5) (by rw [fmap_len]; omega) (by rw [fmap_len]; exact hxN) (by rw [fmap_len]; omega)
              rw [fmap_len, fmap_ins hxN, hj, gr_hi (d := N) hkx2, ← HMM.out] at h1
              exact h1
            clear hj hkx2 hkx hro hO hV hr5 hle5
            go_wp2_with fail
            go_region_law (first | (have _g := HR2; refine step_push_row (by rfl) _ _ (by rfl) (by rfl) (by rfl) (HR2.out.below ((Below.refl _ _).alloc (Nat.le_refl _) _) (Nat.le_refl _)) (sqM_len _ _ _) (ho3.alloc _) (by simp) (by omega) (by omega) (by simp; omega) (HRO.out.blk.1) (HRO.out.blk.2) ?_; intro g5 c5 w5 ho5 hg5; have hg6 := grown_alloc_set hg5; have hO5 := HO3.out.kept hg6 (ne_own (fun c e => by have := (HR2.out.o.lt c e).1; omega)); have ⟨⟨zO5, cO5⟩, fO5⟩ := hO5) | (go_simp; go_at_call 146; refine (HNR.out _ (Joins.below_draws _ _ _)).mono ?_; rintro e w3 ⟨a3, c3, rfl, ho3', hb3⟩; have ht3 := (Joins.below_draws _ _ _).trans hb3; have hs3 := ht3.size; have ho3 := ho3'.mono (B' := W1.heap.size) (by simp); have HR2 := Lib.hid (HRO.out.below ht3 (Nat.le_refl _)); have HO3 := Lib.hid (HO.out.below ht3); have ⟨⟨zO3, cO3⟩, fO3⟩ := HO3.out; have HA3 := Lib.hid (HA.out.below ht3); clear ho3' hb3))
            all_goals
              have hlo := HR2.out.o.lt
              have hV5 := (HV.out.below ht3).kept hg6 (ne_own (fun c e => by have := (hlo c e).1; omega))
              have b5 : Below w.heap.size w w5 := (hb.trans (ht3.mono hbs)).trans (below_of_grown hg6 (fun c e => by have := (hlo c e).1; omega) (by omega))
              have ho6 := ho5.setBelow (p := ⟨b4, 0, none⟩) (show b4 < b4 + 1 by omega) (.slice (some ⟨g5, 0, none⟩) (k + 1) c5)
              have hO6 := hO5.set (.slice (some ⟨g5, 0, none⟩) (k + 1) c5)
              have HA6 := Lib.hid ((HA3.out.kept hg6 (ne_own (fun c e => by have := (hlo c e).1; omega))).kept (grown_set w5 ⟨b4, 0, none⟩ (.slice (some ⟨g5, 0, none⟩) (k + 1) c5)) (by simp; omega))
              have hV6 := hV5.other (p := ⟨b4, 0, none⟩) (.slice (some ⟨g5, 0, none⟩) (k + 1) c5) (show w.heap.size + 1 ≠ b4 by omega)
              have b6 := b5.setCell (p := ⟨b4, 0, none⟩) (show w.heap.size ≤ b4 by omega) (.slice (some ⟨g5, 0, none⟩) (k + 1) c5)
              have H6 := Lib.hid (And.intro ho6 (And.intro hO6 (And.intro hV6 b6)))
              clear ho5 hg5 hg6 hlo hO5 hV5 ho6 hO6 hV6 HR2 ho3 HO3
              go_wp2_with fail
              go_roundw
              case rel => exact ⟨k + 1, _, _, by omega, by go_num, H6.out.2.1, by rw [HN1.out]; exact H6.out.1, H6.out.2.2.1, H6.out.2.2.2, HA6.out⟩
              case measure => simp [intOf]; omega
          · have g1 : ¬ (x : Int) < (k : Int) := by omega
            have hkN : k < N := by omega
            have hkx3 : k < x := by omega
            have hxN : x ≤ N := by omega
            obtain ⟨b5, off5, a5, cap5, rfl, hbl5, hc5, hr5, hle5⟩ := (HX.out.below hb).row (k := k) (by rw [← HN.out]; exact hkN)
            rw [HL.out k hkN] at hc5 hle5
            rw [HRE.out k hkN] at hr5
            have HNR : Hid (Calls Try.prog 146 #[.slice a5 N cap5, .int .i64 (x : Int)] W1 fun e w' => ∃ a' c', e = .returned (.slice a' M c') ∧ OwnI w' W1.heap.size (.slice a' M c') (fmap (wdF (f k) x) M) ∧ Below W1.heap.size W1 w') := by
              have h1 := maWide_any a5 (fmap (f k) N) cap5 x W1 hr5 (by rw [fmap_len]; exact hle5) (by rw [fmap_len]; omega) (by rw [fmap_len]; exact hxN) (by rw [fmap_len]; omega)
              rw [fmap_len, fmap_ins hxN, ← HMM.out] at h1
              exact h1
            clear hkx hkx2 hro hO hV hr5 hle5
            go_wp2_with fail
            refine HNR.out.mono ?_
            rintro e w2 ⟨a2, c2, rfl, ho2, hb2⟩
            have hs2 := hb2.size
            have hpt : ∃ g2, a2 = some ⟨g2, 0, none⟩ := by
              rcases ho2.2 with ⟨e9, h0⟩ | ⟨g9, cap9, cur9, e9, _⟩
              · rw [fmap_len] at h0; omega
              · simp only [Value.slice.injEq] at e9; exact ⟨g9, e9.1⟩
            obtain ⟨g2, rfl⟩ := hpt
            have hgl := ho2.lt g2 rfl
            have ⟨⟨zO2, cO2⟩, fO2⟩ := HO.out.below hb2
            have hwl : (fmap (wdF (f k) x) M).length = M := fmap_len _ _
            by_cases hxN2 : x < N
            · have t2 : (x : Int) < (N : Int) := by omega
              have ⟨cx, fx⟩ := ho2.at' hwl.symm (i := x) (by omega)
              have ⟨cN, fN⟩ := ho2.at' hwl.symm (i := N) (by omega)
              rw [fmap_nth _ (by omega)] at cx cN
              have hput1 := (ho2.put hwl.symm x (wdF (f k) x N)).1
              have hput2 := (hput1.put (by rw [List.length_set]; exact hwl.symm) N 0).1
              rw [HMM.out, gr_lo hkx3 hxN2, ← HMM.out] at hput2
              have hbU := (hb2.setCell (p := ⟨g2, x, none⟩) hgl.1 (.int .i64 (wdF (f k) x N))).setCell (p := ⟨g2, N, none⟩) hgl.1 (.int .i64 0)
              obtain ⟨V, hVV⟩ : ∃ V, V = wdF (f k) x N := ⟨_, rfl⟩
              obtain ⟨U, hUU⟩ : ∃ V, V = wdF (f k) x x := ⟨_, rfl⟩
              rw [← hVV] at cN hput2 hbU
              rw [← hUU] at cx
              have HU3 := Lib.hid hput2
              have hne9 : ¬ x = N := by omega
              have hne8 : ¬ N = x := by omega
              have hO3 := HO.out.below hbU
              have ⟨⟨zO3, cO3⟩, fO3⟩ := hO3
              have HO3 := Lib.hid hO3
              have HRO3 := Lib.hid (HRO.out.below hbU (Nat.le_refl _))
              have HV3 := Lib.hid (HV.out.below hbU)
              have HA3 := Lib.hid (HA.out.below hbU)
              have HB3 := Lib.hid (hb.trans (hbU.mono hbs))
              clear hO3
              clear hput1 hput2 hwl ho2 hVV hUU
              go_wp2_with (at_builtin; refine push_row (v := .slice av k cv) (C := W1.heap.size) rfl _ _ rfl rfl HRO3.out HU3.out (by first | rfl | (simp only [World.size_setCell]; rfl) | simp [Act.eval]) h63 (by omega) (by have := hbU.size; omega) (fun c e => (HRO.out.blk.1 c e)) (fun i hi c e => HRO.out.blk.2 i hi c e) ?_)
              intro v5 w5 ho5 hg5
              have hlo := HRO3.out.o.lt
              have hO5 := HO3.out.kept hg5 (ne_own (fun c e => by have := (hlo c e).1; omega))
              have hV5 := HV3.out.kept hg5 (ne_own (fun c e => by have := (hlo c e).1; omega))
              have b5 : Below w.heap.size w w5 := HB3.out.trans (below_of_grown hg5 (fun c e => by have := (hlo c e).1; omega) (by have := HB3.out.size; omega))
              obtain ⟨a5, c5, e5⟩ := ho5.o.form
              subst e5
              have ⟨⟨zO5, cO5⟩, fO5⟩ := hO5
              obtain ⟨L5, hL5⟩ : ∃ L5, L5 = (sqM (grBI f N x) k M ++ [fmap (grBI f N x k) M]).length := ⟨_, rfl⟩
              rw [← hL5] at ho5 ⊢
              have ho6 := ho5.setBelow (p := ⟨b4, 0, none⟩) (show b4 < b4 + 1 by omega) (.slice a5 L5 c5)
              have hO6 := hO5.set (.slice a5 L5 c5)
              have HA6 := Lib.hid ((HA3.out.kept hg5 (ne_own (fun c e => by have := (hlo c e).1; omega))).kept (grown_set w5 ⟨b4, 0, none⟩ (.slice a5 L5 c5)) (by simp; omega))
              have hV6 := hV5.other (p := ⟨b4, 0, none⟩) (.slice a5 L5 c5) (show w.heap.size + 1 ≠ b4 by omega)
              have b6 := b5.setCell (p := ⟨b4, 0, none⟩) (show w.heap.size ≤ b4 by omega) (.slice a5 L5 c5)
              have H6 := Lib.hid (And.intro ho6 (And.intro hO6 (And.intro hV6 b6)))
              clear ho5 hg5 hlo hO5 hV5 ho6 hO6 hV6 hL5
              go_wp2_with fail
              go_roundw
              case rel => exact ⟨k + 1, _, _, by omega, by go_num, H6.out.2.1, by rw [HN1.out]; exact H6.out.1, H6.out.2.2.1, H6.out.2.2.2, HA6.out⟩
              case measure => simp [intOf]; omega
            · have t2 : ¬ (x : Int) < (N : Int) := by omega
              have hxe : x = N := by omega
              have e9 : fmap (wdF (f k) x) M = fmap (grBI f N x k) M := by rw [HMM.out, hxe]; exact gr_end hkN
              have hU := ho2
              rw [e9] at hU
              have HU3 := Lib.hid hU
              have hbU := hb2
              have hO3 := HO.out.below hbU
              have ⟨⟨zO3, cO3⟩, fO3⟩ := hO3
              have HO3 := Lib.hid hO3
              have HRO3 := Lib.hid (HRO.out.below hbU (Nat.le_refl _))
              have HV3 := Lib.hid (HV.out.below hbU)
              have HA3 := Lib.hid (HA.out.below hbU)
              have HB3 := Lib.hid (hb.trans (hbU.mono hbs))
              clear hO3
              clear hwl ho2 hU hxe e9
              go_wp2_with (at_builtin; refine push_row (v := .slice av k cv) (C := W1.heap.size) rfl _ _ rfl rfl HRO3.out HU3.out (by first | rfl | (simp only [World.size_setCell]; rfl) | simp [Act.eval]) h63 (by omega) (by have := hbU.size; omega) (fun c e => (HRO.out.blk.1 c e)) (fun i hi c e => HRO.out.blk.2 i hi c e) ?_)
              intro v5 w5 ho5 hg5
              have hlo := HRO3.out.o.lt
              have hO5 := HO3.out.kept hg5 (ne_own (fun c e => by have := (hlo c e).1; omega))
              have hV5 := HV3.out.kept hg5 (ne_own (fun c e => by have := (hlo c e).1; omega))
              have b5 : Below w.heap.size w w5 := HB3.out.trans (below_of_grown hg5 (fun c e => by have := (hlo c e).1; omega) (by have := HB3.out.size; omega))
              obtain ⟨a5, c5, e5⟩ := ho5.o.form
              subst e5
              have ⟨⟨zO5, cO5⟩, fO5⟩ := hO5
              obtain ⟨L5, hL5⟩ : ∃ L5, L5 = (sqM (grBI f N x) k M ++ [fmap (grBI f N x k) M]).length := ⟨_, rfl⟩
              rw [← hL5] at ho5 ⊢
              have ho6 := ho5.setBelow (p := ⟨b4, 0, none⟩) (show b4 < b4 + 1 by omega) (.slice a5 L5 c5)
              have hO6 := hO5.set (.slice a5 L5 c5)
              have HA6 := Lib.hid ((HA3.out.kept hg5 (ne_own (fun c e => by have := (hlo c e).1; omega))).kept (grown_set w5 ⟨b4, 0, none⟩ (.slice a5 L5 c5)) (by simp; omega))
              have hV6 := hV5.other (p := ⟨b4, 0, none⟩) (.slice a5 L5 c5) (show w.heap.size + 1 ≠ b4 by omega)
              have b6 := b5.setCell (p := ⟨b4, 0, none⟩) (show w.heap.size ≤ b4 by omega) (.slice a5 L5 c5)
              have H6 := Lib.hid (And.intro ho6 (And.intro hO6 (And.intro hV6 b6)))
              clear ho5 hg5 hlo hO5 hV5 ho6 hO6 hV6 hL5
              go_wp2_with fail
              go_roundw
              case rel => exact ⟨k + 1, _, _, by omega, by go_num, H6.out.2.1, by rw [HN1.out]; exact H6.out.1, H6.out.2.2.1, H6.out.2.2.2, HA6.out⟩
              case measure => simp [intOf]; omega
      · obtain rfl : k = M := by omega
        have t1 : ¬ (k : Int) ≤ (N : Int) := by omega
        have ⟨⟨zO, cO⟩, fO⟩ := hO
        have ⟨⟨zV, cV⟩, fV⟩ := hV
        clear hro hO hV
        go_wp2_with fail
        have hV2 := HV.out.set (.slice av k cv)
        have b2 := hb.setCell (p := ⟨w.heap.size + 1, 0, none⟩) (by simp) (.slice av k cv)
        refine bodyPost_ret (v := .agg #[.slice av k cv]) (by have ⟨⟨_, q1⟩, _⟩ := hV2; simp [results, Try.results102, go_sem, q1]) rfl ?_
        exact ⟨av, cv, by rw [HSH.out, sqM_len], ⟨vl, by rw [HSH.out, sqM_len]; exact (HRO.out.setBelow (show w.heap.size + 1 < b4 + 1 by omega) _).mono (by omega)⟩, b2⟩

set_option maxRecDepth 100000 in
set_option maxHeartbeats 1000000 in
theorem maOf_any (a : Option Addr) (xs : List Int) (cap : Nat) (w : World) (hx : Rd w a xs) (hm : ascB xs = true) :
    Calls Try.prog 134 #[.slice a xs.length cap] w fun e w' => ∃ a0 c0 vl, e = .returned (.agg #[.slice a0 (moK xs xs.length).length c0]) ∧ RowsP w' w.heap.size (.slice a0 (moK xs xs.length).length c0) vl (moK xs xs.length) ∧ Below w.heap.size w w' := by
  have hlen := hx.len
  have hV := Var1.new w (.slice none 0 0) 60
  have hb0 : Below w.heap.size w (w.alloc (.cells #[.slice none 0 0] 60)) := (by repeat (first | exact Below.refl _ _ | assumption | refine Below.alloc ?_ (by first | exact Nat.le_refl _ | (simp only [World.size_alloc, World.size_setCell, World.size_drew]; omega) | omega) _ | refine Below.setCell ?_ (by first | exact Nat.le_refl _ | (simp only [World.size_alloc, World.size_setCell, World.size_drew]; omega) | omega) _ | refine Below.drew ?_))
  have HX := Lib.hid hx
  have h12 := (ascB_iff.1 hm).1
  have HOK := Lib.hid (fun k (hk : k ≤ xs.length) => moK_ok hm hk)
  have HGB := Lib.hid (fun k (hk : k < xs.length) => moK_gw hm hk)
  have HNB := Lib.hid (fun k (hk : k < xs.length) => ascB_small hm hk)
  obtain ⟨w1, hw1⟩ : ∃ w1, w1 = w.alloc (.cells #[.slice none 0 0] 60) := ⟨_, rfl⟩
  have bb1 : Below w1.heap.size w1 (w1.alloc (.cells #[.slice none 0 0] 60)) := (by repeat (first | exact Below.refl _ _ | assumption | refine Below.alloc ?_ (by first | exact Nat.le_refl _ | (simp only [World.size_alloc, World.size_setCell, World.size_drew]; omega) | omega) _ | refine Below.setCell ?_ (by first | exact Nat.le_refl _ | (simp only [World.size_alloc, World.size_setCell, World.size_drew]; omega) | omega) _ | refine Below.drew ?_))
  have hz1 : w1.heap.size = w.heap.size + 1 := by rw [hw1]; simp
  rw [← hw1] at hV hb0
  have HV1 := Lib.hid (hV.below bb1)
  have HO1 := Lib.hid (Var1.new w1 (.slice none 0 0) 60)
  have HB1 := Lib.hid (hb0.trans (bb1.mono hb0.size))
  rw [hw1] at HO1 HV1 HB1
  rw [World.size_alloc] at HO1
  obtain ⟨N, hN⟩ : ∃ N, N = xs.length := ⟨_, rfl⟩
  have HN := Lib.hid hN
  rw [← hN] at hlen h12 HOK HGB HNB ⊢
  clear hV bb1 hx hw1 hz1 hb0 hN hm
  go_enter Try.func134, Try.ntmps134
  go_wp2_with fail
  go_loopw [9] (fun i wr => ∃ (k : Nat) (v : Value) (vl : List Value), k ≤ N ∧ i = .int .i64 k ∧ Var1 wr (w.heap.size + 1) v ∧ RowsP wr (w.heap.size + 2) v vl (moK xs k) ∧ Var1 wr w.heap.size (.slice none 0 0) ∧ Below w.heap.size w wr) (fun i _ => N - (intOf i).toNat)
  case atStart => exact ⟨0, .slice none 0 0, [], Nat.zero_le _, rfl, HO1.out, RowsP.nil _ _, HV1.out, HB1.out⟩
  case round =>
    obtain ⟨k, v, vl, hk, rfl, hO, hro, hV, hb⟩ := hrel
    have hbs := hb.size
    have hO9 := hO.1.1
    obtain ⟨av, cv, ev⟩ := hro.o.form
    subst ev
    have ⟨⟨zO, cO⟩, fO⟩ := hO
    by_cases hlt : k < N
    · have k1 : (k : Int) < (N : Int) := by omega
      obtain ⟨b, off, rfl, hbl, hc⟩ := (HX.out.below hb).cell k (by rw [← HN.out]; exact hlt)
      have ⟨gm, g0, g1, g2⟩ := gwB_iff.1 (HGB.out k hlt)
      obtain ⟨x, hxx⟩ : ∃ x : Nat, nth xs k = (x : Int) := ⟨(nth xs k).toNat, by omega⟩
      have HG := Lib.hid (maGrow_any av (moK xs k) cv x wr hro.rdC gm (by omega))
      rw [show grL (moK xs k) x = moK xs (k+1) by rw [moK, hxx, Int.toNat_natCast]] at HG
      have HV := Lib.hid hV
      have HO := Lib.hid hO
      rw [hxx] at hc
      obtain ⟨L, hL⟩ : ∃ L, L = (moK xs (k+1)).length := ⟨_, rfl⟩
      have HL := Lib.hid hL
      rw [← hL] at HG
      generalize (moK xs k).length = L0 at HG cO ⊢
      clear hro hV hO hxx hL gm g0 g1 g2
      go_wp2_with fail
      refine HG.out.mono ?_
      rintro e w2 ⟨a2, c2, ul, rfl, hro2, hb2⟩
      have hO2 := HO.out.below hb2
      have hV2 := HV.out.below hb2
      have b2 := hb.trans (hb2.mono hbs)
      have ⟨⟨zO2, cO2⟩, fO2⟩ := hO2
      have hs2 := hb2.size
      have hO3 := hO2.set (.slice a2 L c2)
      have hV3 := hV2.other (p := ⟨w.heap.size + 1, 0, none⟩) (.slice a2 L c2) (show w.heap.size ≠ w.heap.size + 1 by omega)
      have hro3 := (hro2.setBelow (p := ⟨w.heap.size + 1, 0, none⟩) hO9 (.slice a2 L c2)).mono (B' := w.heap.size + 2) (by omega)
      have b3 := b2.setCell (p := ⟨w.heap.size + 1, 0, none⟩) (show w.heap.size ≤ w.heap.size + 1 by omega) (.slice a2 L c2)
      have H6 := Lib.hid (And.intro hO3 (And.intro hro3 (And.intro hV3 b3)))
      clear hro2 hO2 hV2 hO3 hV3 hro3 b3 hb2
      go_wp2_with fail
      go_roundw
      case rel => exact ⟨k + 1, _, _, by omega, by go_num, H6.out.1, H6.out.2.1, H6.out.2.2.1, H6.out.2.2.2⟩
      case measure => simp [intOf]; omega
    · obtain rfl : k = N := by omega
      have ⟨⟨zV, cV⟩, fV⟩ := hV
      obtain ⟨L, hL⟩ : ∃ L, L = (moK xs k).length := ⟨_, rfl⟩
      have HL := Lib.hid hL
      rw [← hL] at hro cO
      have HRO := Lib.hid hro
      have HV := Lib.hid hV
      clear hro hO hV hL
      go_wp2_with fail
      have hV2 := HV.out.set (.slice av L cv)
      have b2 := hb.setCell (p := ⟨w.heap.size, 0, none⟩) (by simp) (.slice av L cv)
      refine bodyPost_ret (v := .agg #[.slice av L cv]) (by have ⟨⟨_, q1⟩, _⟩ := hV2; simp [results, Try.results134, go_sem, q1]) rfl ?_
      exact ⟨av, cv, vl, by rw [HL.out], by rw [← HL.out]; exact (HRO.out.setBelow (show w.heap.size < w.heap.size + 2 by omega) _).mono (by omega), b2⟩

theorem rd_lit5 (w : World) (x0 x1 x2 x3 x4 : Int) (t : TypeId) : Rd (w.alloc (.cells #[.int .i64 x0, .int .i64 x1, .int .i64 x2, .int .i64 x3, .int .i64 x4] t)) (some ⟨w.heap.size, 0, none⟩) [x0, x1, x2, x3, x4] :=
  ⟨by simp, fun k hk => ⟨w.heap.size, 0, rfl, by simp, by
    have : k = 0 ∨ k = 1 ∨ k = 2 ∨ k = 3 ∨ k = 4 := by simp at hk; omega
    rcases this with rfl | rfl | rfl | rfl | rfl <;> simp [nth]⟩⟩
set_option maxRecDepth 100000 in
set_option maxHeartbeats 4000000 in
theorem matrix_any (p L m : Nat) (w : World) (h : Cur w p L) (hL : L ≤ 600000000) (hm : m ≤ 12) :
    Calls Try.prog 95 #[.pointer (some ⟨p, 0, none⟩), .int .i64 (m : Int)] w (MatD w p (L + 200)) := by
  have hpw := h.lt
  have hb0 : Below w.heap.size w (w.alloc (.cells #[.slice none 0 0] 60)) := (by repeat (first | exact Below.refl _ _ | assumption | refine Below.alloc ?_ (by first | exact Nat.le_refl _ | (simp only [World.size_alloc, World.size_setCell, World.size_drew]; omega) | omega) _ | refine Below.setCell ?_ (by first | exact Nat.le_refl _ | (simp only [World.size_alloc, World.size_setCell, World.size_drew]; omega) | omega) _ | refine Below.drew ?_))
  have H := Lib.hid (h.below hb0)
  have HZ := Lib.hid (Var1.new w (.slice none 0 0) 60)
  clear h
  go_enter Try.func95, Try.ntmps95
  go_wp2_with fail
  refine (ascent_any p L m _ H.out hL hm).mono ?_
  rintro e w1 ⟨a1, c1, xs, rfl, ho1, hl1, hx1, hc1, hd1⟩
  have hs1 : w.heap.size + 1 ≤ w1.heap.size := by have := hd1.size; simpa using this
  replace HZ := Lib.hid (HZ.out.drawn hd1 (by omega))
  have HD1 : Hid (Drawn w w1 p) := hd1.of_alloc
  have HC1 := Lib.hid hc1
  have hcp1 := ho1.capLe
  have HO1 := Lib.hid ho1.rd
  clear H hb0 ho1 hx1 hc1 hd1
  go_wp2_with fail
  refine (asGood_any a1 xs c1 _ HO1.out hcp1).mono ?_
  rintro e w2 ⟨rfl, hb2⟩
  replace HZ := Lib.hid (HZ.out.below hb2)
  replace HD1 := Lib.hid (HD1.out.below hb2)
  replace HC1 := Lib.hid (HC1.out.below hb2)
  replace HO1 := Lib.hid (HO1.out.below hb2)
  have hs2 := hb2.size
  clear hb2
  cases hA : ascB xs
  case' false =>
    go_wp2_with fail
    refine (orUpTo3_any _).mono ?_
    rintro e w3 ⟨a3, c3, rfl, ho3, hb3⟩
    replace HZ := Lib.hid (HZ.out.below hb3)
    replace HD1 := Lib.hid (HD1.out.below hb3)
    replace HC1 := Lib.hid (HC1.out.below hb3)
    have hs3 := hb3.size
    have HM : Hid (∀ W, Rd W a3 [0, 1, 2] → Calls Try.prog 134 #[.slice a3 3 c3] W fun e w' => ∃ a0 c0 vl, e = .returned (.agg #[.slice a0 (moK [0, 1, 2] 3).length c0]) ∧ RowsP w' W.heap.size (.slice a0 (moK [0, 1, 2] 3).length c0) vl (moK [0, 1, 2] 3) ∧ Below W.heap.size W w') := fun W h => maOf_any a3 [0, 1, 2] c3 W h (by decide)
    have hmr : (moK [0, 1, 2] 3).length ≤ 12 ∧ ∀ k, k < (moK [0, 1, 2] 3).length → (rowL (moK [0, 1, 2] 3) k).length = (moK [0, 1, 2] 3).length := moK_rows (xs := [0, 1, 2]) (by decide)
    have HR3 := Lib.hid ho3.rd
    generalize moK [0, 1, 2] 3 = xss at HM hmr
    clear hb3 ho3 HO1
    go_wp2_with fail
    refine (HM.out _ HR3.out).mono ?_
    clear HM HR3
  case' true =>
    obtain ⟨w3, hw3⟩ : ∃ x, x = w2 := ⟨_, rfl⟩
    subst hw3
    have hs3 : w1.heap.size ≤ w3.heap.size := hs2
    have HM := Lib.hid (fun W (h : Rd W a1 xs) => maOf_any a1 xs c1 W h hA)
    have hmr := moK_rows hA
    generalize moK xs xs.length = xss at HM hmr
    go_wp2_with fail
    refine (HM.out _ HO1.out).mono ?_
    clear HM HO1
  all_goals
    rintro e w4 ⟨a4, c4, vl, rfl, ho4, hb4⟩
    have HMR := Lib.hid hmr
    have hs4 := hb4.size
    have bb4 : Below w4.heap.size w4 (w4.alloc (.cells #[.slice a4 xss.length c4] 60)) := (by repeat (first | exact Below.refl _ _ | assumption | refine Below.alloc ?_ (by first | exact Nat.le_refl _ | (simp only [World.size_alloc, World.size_setCell, World.size_drew]; omega) | omega) _ | refine Below.setCell ?_ (by first | exact Nat.le_refl _ | (simp only [World.size_alloc, World.size_setCell, World.size_drew]; omega) | omega) _ | refine Below.drew ?_))
    have HK : Hid (MatK w p (L + 100) w4.heap.size a4 c4 vl xss (w4.alloc (.cells #[.slice a4 xss.length c4] 60))) :=
      ⟨(HZ.out.below hb4).below bb4, Var1.new w4 _ _, (ho4.mono (by omega)).below bb4 (Nat.le_refl _), (HC1.out.below hb4).below bb4, (HD1.out.below hb4).below bb4, hpw, by omega, fun g e => by have := ((ho4.cut (Nat.le_refl _)).1 g e).2; omega, fun k hk g e => by have := ((ho4.cut (Nat.le_refl _)).2 k hk g e).2; omega⟩
    obtain ⟨w5, hw5⟩ : ∃ x : World, x = w4.alloc (.cells #[.slice a4 xss.length c4] 60) := ⟨_, rfl⟩
    rw [← hw5] at HK
    have HW5 := Lib.hid hw5
    have hs5 : w5.heap.size = w4.heap.size + 1 := by rw [hw5]; simp
    clear hw5 bb4 ho4 hb4 hmr HZ HD1 HC1
    go_wp2_with fail
    rw [← HW5.out]
    clear HW5
    refine (pick_any p (L + 100) 14 _ HK.out.cu (by omega) (by omega)).mono ?_
    rintro e w6 ⟨r, rfl, hr0, hr1, hc6, hd6⟩
    have hs6 := hd6.size
    replace HK := Lib.hid (HK.out.drawn hd6 hc6)
    clear hc6 hd6
    by_cases h0 : r = 0
    · subst h0
      have ⟨⟨zm, cm⟩, fm⟩ := HK.out.m
      have ⟨⟨zz, cz⟩, fz⟩ := HK.out.z
      by_cases hl0 : 0 < xss.length
      · have l1 : (0 : Int) < (xss.length : Int) := by omega
        go_wp2_with fail
        refine (pick_any p (L + 102) (xss.length : Int) _ HK.out.cu (by omega) (by have := HMR.out.1; omega)).mono ?_
        rintro e w7 ⟨q, rfl, hq0, hq1, hc7, hd7⟩
        obtain ⟨i, rfl⟩ := Int.eq_ofNat_of_zero_le hq0
        have hi : i < xss.length := by omega
        have hs7 := hd7.size
        replace HK := Lib.hid (HK.out.drawn hd7 hc7)
        clear hc7 hd7 cm cz zm zz fm fz
        have hxl := HMR.out.1
        have HRL := Lib.hid (HMR.out.2 i hi)
        obtain ⟨g, ea, hg0, hg1, hcg, _⟩ := HK.out.r.outer hi
        subst ea
        obtain ⟨gr0, cr0, ev0, _⟩ := HK.out.put hi (j := 0) (by rw [HRL.out]; omega)
        rw [ev0, HRL.out] at hcg
        have HE0 := Lib.hid ev0
        clear ev0
        have hii : (i : Int) < (xss.length : Int) := by omega
        have hpw7 : p < w7.heap.size := HK.out.cu.lt
        have ⟨⟨zm, cm⟩, fm⟩ := HK.out.m
        go_wp2_with fail
        go_region_held3 (fun w' => w'.cell? ⟨w4.heap.size, 0, none⟩ = some (.slice (some ⟨g, 0, none⟩) xss.length c4) ∧ w'.cell? ⟨g, i, none⟩ = some (.slice (some ⟨gr0, 0, none⟩) xss.length cr0))
          (first | exact ⟨(by have h := (HP9.out (nth [-1, 0, 1, 12, 13] kk)).m.1.2; rw [setM_len] at h; exact h), mat_row (HP9.out (nth [-1, 0, 1, 12, 13] kk)) (by rw [setM_len]; exact hi) (by rw [setM_rlen hi]; exact HE0.out) (by rw [setM_rlen hi]; exact HRL.out)⟩ | exact ⟨KB.out.m.1.2, mat_row KB.out hi HE0.out HRL.out⟩ | exact ⟨KA.out.m.1.2, mat_row KA.out hi HE0.out HRL.out⟩ | go_keep)
          (first
            | (have _g := HP1; go_at_call 76; refine (among_any p (L + 106) (some ⟨wa.heap.size, 0, none⟩) [-1, 0, 1, 12, 13] 5 5 _ (KA.out.below ((Below.refl _ _).alloc (Nat.le_refl _) (.cells #[.int .i64 (-1), .int .i64 0, .int .i64 1, .int .i64 12, .int .i64 13] 3))).cu (by omega) (rd_lit5 wa (-1) 0 1 12 13 _) rfl (by omega) (by omega) (fun b off e => (by simp only [Option.some.injEq, Addr.mk.injEq] at e; omega))).mono ?_; rintro e wb ⟨kk, hkk, rfl, hcb, hdb⟩; have KB := Lib.hid ((KA.out.below ((Below.refl _ _).alloc (Nat.le_refl _) (.cells #[.int .i64 (-1), .int .i64 0, .int .i64 1, .int .i64 12, .int .i64 13] 3))).drawn hdb hcb); obtain ⟨gr, cr, ev, ⟨zz9, cib⟩, fib, HPb⟩ := KB.out.put hi hjr; rw [HE0.out] at ev; simp only [Value.slice.injEq, Option.some.injEq, Addr.mk.injEq, and_true, true_and] at ev; obtain ⟨rfl, rfl⟩ := ev; have HP9 := Lib.hid HPb; have vB := KB.out.m; have ⟨⟨zB, cB⟩, fB⟩ := vB; clear hcb hdb HPb)
            | (have _g := HP2; go_at_call 76; refine (among_any p (L + 106) (some ⟨w7.heap.size, 0, none⟩) [-1, 0, 1, 12, 13] 5 5 _ KA.out.cu (by omega) HP2.out rfl (by omega) (by omega) (fun b off e => (by simp only [Option.some.injEq, Addr.mk.injEq] at e; omega))).mono ?_; rintro e wb ⟨kk, hkk, rfl, hcb, hdb⟩; have KB := Lib.hid (KA.out.drawn hdb hcb); obtain ⟨gr, cr, ev, ⟨zz9, cib⟩, fib, HPb⟩ := KB.out.put hi hjr; rw [HE0.out] at ev; simp only [Value.slice.injEq, Option.some.injEq, Addr.mk.injEq, and_true, true_and] at ev; obtain ⟨rfl, rfl⟩ := ev; have HP9 := Lib.hid HPb; have vB := KB.out.m; have ⟨⟨zB, cB⟩, fB⟩ := vB; clear hcb hdb HPb)
            | (have _g := HP2; go_at_call 76; refine (among_any p (L + 106) (some ⟨w7.heap.size, 0, none⟩) [-1, 0, 1, 12, 13] 5 5 _ (KA.out.below (Joins.below_draws _ _ _)).cu (by omega) (HP2.out.below (Joins.below_draws _ _ _)) rfl (by omega) (by omega) (fun b off e => (by simp only [Option.some.injEq, Addr.mk.injEq] at e; omega))).mono ?_; rintro e wb ⟨kk, hkk, rfl, hcb, hdb⟩; have KB := Lib.hid ((KA.out.below (Joins.below_draws _ _ _)).drawn hdb hcb); obtain ⟨gr, cr, ev, ⟨zz9, cib⟩, fib, HPb⟩ := KB.out.put hi hjr; rw [HE0.out] at ev; simp only [Value.slice.injEq, Option.some.injEq, Addr.mk.injEq, and_true, true_and] at ev; obtain ⟨rfl, rfl⟩ := ev; have HP9 := Lib.hid HPb; have vB := KB.out.m; have ⟨⟨zB, cB⟩, fB⟩ := vB; clear hcb hdb HPb)
            | (go_at_call 75; refine (pick_any p (L + 104) (xss.length : Int) _ (HK.out.below (Joins.below_draws _ _ _)).cu (by omega) (by omega)).mono ?_; rintro e wa ⟨q, rfl, hq0, hq1, hca, hda⟩; obtain ⟨j, rfl⟩ := Int.eq_ofNat_of_zero_le hq0; have hjl : j < xss.length := (by omega); have hjr : j < (rowL xss i).length := (by rw [HRL.out]; exact hjl); have hjk : (j : Int) < (xss.length : Int) := (by omega); have KA := Lib.hid ((HK.out.below (Joins.below_draws _ _ _)).drawn hda hca); have hsa : w7.heap.size ≤ wa.heap.size := (by have := hda.size; simp at this; omega); have HP1 := Lib.hid hsa; clear hca hda hq0 hq1)
            | (go_at_call 75; refine (pick_any p (L + 104) (xss.length : Int) _ (HK.out.below ((Below.refl w7.heap.size w7).alloc (Nat.le_refl _) (.cells #[.int .i64 (-1), .int .i64 0, .int .i64 1, .int .i64 12, .int .i64 13] 3))).cu (by omega) (by omega)).mono ?_; rintro e wa ⟨q, rfl, hq0, hq1, hca, hda⟩; obtain ⟨j, rfl⟩ := Int.eq_ofNat_of_zero_le hq0; have hjl : j < xss.length := (by omega); have hjr : j < (rowL xss i).length := (by rw [HRL.out]; exact hjl); have hjk : (j : Int) < (xss.length : Int) := (by omega); have KA := Lib.hid ((HK.out.below ((Below.refl w7.heap.size w7).alloc (Nat.le_refl _) (.cells #[.int .i64 (-1), .int .i64 0, .int .i64 1, .int .i64 12, .int .i64 13] 3))).drawn hda hca); have hsa : w7.heap.size ≤ wa.heap.size := (by have := hda.size; simp at this; omega); have HP2 := Lib.hid ((rd_lit5 w7 (-1) 0 1 12 13 3).drawn hda (fun b off e => (by simp only [Option.some.injEq, Addr.mk.injEq] at e; omega))); clear hca hda hq0 hq1)
            | (go_at_call 75; refine (pick_any p (L + 104) (xss.length : Int) _ (HK.out.below (((Below.refl w7.heap.size w7).alloc (Nat.le_refl _) (.cells #[.int .i64 (-1), .int .i64 0, .int .i64 1, .int .i64 12, .int .i64 13] 3)).trans (Joins.below_draws _ _ _))).cu (by omega) (by omega)).mono ?_; rintro e wa ⟨q, rfl, hq0, hq1, hca, hda⟩; obtain ⟨j, rfl⟩ := Int.eq_ofNat_of_zero_le hq0; have hjl : j < xss.length := (by omega); have hjr : j < (rowL xss i).length := (by rw [HRL.out]; exact hjl); have hjk : (j : Int) < (xss.length : Int) := (by omega); have KA := Lib.hid ((HK.out.below (((Below.refl w7.heap.size w7).alloc (Nat.le_refl _) (.cells #[.int .i64 (-1), .int .i64 0, .int .i64 1, .int .i64 12, .int .i64 13] 3)).trans (Joins.below_draws _ _ _))).drawn hda hca); have hsa : w7.heap.size ≤ wa.heap.size := (by have := hda.size; simp at this; omega); have HP2 := Lib.hid (((rd_lit5 w7 (-1) 0 1 12 13 3).below (Joins.below_draws _ _ _)).drawn hda (fun b off e => (by simp only [Option.some.injEq, Addr.mk.injEq] at e; omega))); clear hca hda hq0 hq1))
        all_goals
          have HP := HP9.out (nth [-1, 0, 1, 12, 13] kk)
          have ⟨⟨zm9, cm9⟩, fm9⟩ := HP.m
          have ⟨⟨zz9, cz9⟩, fz9⟩ := HP.z
          rw [setM_len] at cm9
          have R3 := HP.done (by rw [setM_len]; omega) (fun k hk => by rw [setM_rlen hi]; rw [setM_len] at hk; have := HMR.out.2 k hk; omega)
          rw [setM_len] at R3
          have HR3 := Lib.hid R3
          clear HP R3 KB cm
          generalize (nth [-1, 0, 1, 12, 13] kk) = zv at *
          go_wp2_with fail
          have R3 := HR3.out
          refine bodyPost_ret (v := .agg #[.slice (some ⟨g, 0, none⟩) xss.length c4]) (by have ⟨⟨⟨_, q1⟩, _⟩, _⟩ := R3; simp [results, Try.results95, go_sem, q1]) rfl ?_
          obtain ⟨_, a', c', xss', e', g1, g2, g3, g4, g5⟩ := R3
          exact ⟨a', c', xss', e', g1, g2, g3, g4.mono (by omega), g5⟩
      · have l1 : ¬ (0 : Int) < (xss.length : Int) := by omega
        go_wp2_with fail
        have R3 := (HK.out.done (by have := HMR.out.1; omega) (fun k hk => by have h8 := HMR.out.1; have := HMR.out.2 k hk; omega))
        refine bodyPost_ret (v := .agg #[.slice a4 xss.length c4]) (by have ⟨⟨⟨_, q1⟩, _⟩, _⟩ := R3; simp [results, Try.results95, go_sem, q1]) rfl ?_
        obtain ⟨_, a', c', xss', e', g1, g2, g3, g4, g5⟩ := R3
        exact ⟨a', c', xss', e', g1, g2, g3, g4.mono (by omega), g5⟩
    · have z0 : (r == 0) = false := by simpa using h0
      by_cases h1 : r = 1
      · subst h1
        have ⟨⟨zm, cm⟩, fm⟩ := HK.out.m
        have ⟨⟨zz, cz⟩, fz⟩ := HK.out.z
        have hxl := HMR.out.1
        have hrow : OwnI (w6.alloc (.cells #[.int .i64 1] 3)) w6.heap.size (.slice (some ⟨w6.heap.size, 0, none⟩) 1 1) [1] := OwnI.new w6 [1] (by simp)
        have bb6 : Below w6.heap.size w6 (w6.alloc (.cells #[.int .i64 1] 3)) := (by repeat (first | exact Below.refl _ _ | assumption | refine Below.alloc ?_ (by first | exact Nat.le_refl _ | (simp only [World.size_alloc, World.size_setCell, World.size_drew]; omega) | omega) _ | refine Below.setCell ?_ (by first | exact Nat.le_refl _ | (simp only [World.size_alloc, World.size_setCell, World.size_drew]; omega) | omega) _ | refine Below.drew ?_))
        have hro := HK.out.r.below bb6 (Nat.le_refl _)
        have hcut := HK.out.r.cut (Nat.le_refl w6.heap.size)
        have hbm := HK.out.m.1.1
        have hsz : (w6.alloc (.cells #[.int .i64 1] 3)).heap.size = w6.heap.size + 1 := by simp
        have HK6 := Lib.hid (HK.out.below bb6)
        go_wp2_with (at_builtin; refine push_rowAt (v := .slice a4 xss.length c4) (vl := vl) (xss := xss) (B := w.heap.size + 1) (C := w6.heap.size) (ar := some ⟨w6.heap.size, 0, none⟩) (n := 1) (cp := 1) (r := [1]) (wr := w6.alloc (.cells #[.int .i64 1] 3)) rfl _ _ rfl rfl hro hrow (w6.heap.size + 1) hsz rfl (by omega) (by omega) (by simp) (fun c e => (hcut.1 c e).2) (fun k hk c e => (hcut.2 k hk c e).2) ?_; intro v7 w7 hr7 hg7 hat7; revert hat7)
        intro hat7
        obtain ⟨a7, c7, e7⟩ := hr7.o.form
        subst e7
        have hl7 : (xss ++ [[1]]).length = xss.length + 1 := by simp
        have hnb := HK6.out.nb
        have hvl := HK6.out.r.o.vlen
        have hlo := HK6.out.r.lo (p := w.heap.size) (by omega)
        have hm7 := HK6.out.m.kept hg7 (fun e => hnb.1 _ e.symm rfl)
        have hz7 := HK6.out.z.kept hg7 (fun e => hlo.1 _ e.symm rfl)
        have hc7 := HK6.out.cu.kept hg7 (fun g e => by have := ((HK6.out.r.cut (Nat.le_refl _)).1 g e).1; omega)
        have hd7 := HK6.out.d.grown hg7 (fun c e => by have := ((HK6.out.r.cut (Nat.le_refl _)).1 c e).1; omega)
        have hr8 : ∀ x, RowsP (w7.setCell ⟨w4.heap.size, 0, none⟩ x) (w.heap.size + 1) (.slice a7 (xss ++ [[1]]).length c7) (vl ++ [.slice (some ⟨w6.heap.size, 0, none⟩) 1 1]) (xss ++ [[1]]) := fun x => hr7.kept (grown_set w7 ⟨w4.heap.size, 0, none⟩ x) (fun c e e2 => by
            simp only [Option.some.injEq] at e2
            rcases hat7 with h | h
            · rw [h] at e; exact hnb.1 c e e2.symm
            · rw [h] at e; simp only [Option.some.injEq] at e; omega) (fun k hk c e e2 => by
            simp only [Option.some.injEq] at e2
            by_cases hkl : k < xss.length
            · have e3 : valAt (vl ++ [.slice (some ⟨w6.heap.size, 0, none⟩) 1 1]) k = valAt vl k := by simp [valAt, List.getD_eq_getElem?_getD, List.getElem?_append_left (show k < vl.length by omega)]
              rw [e3] at e
              exact hnb.2 k hkl c e e2.symm
            · have e3 : valAt (vl ++ [.slice (some ⟨w6.heap.size, 0, none⟩) 1 1]) k = .slice (some ⟨w6.heap.size, 0, none⟩) 1 1 := by simp [valAt, List.getD_eq_getElem?_getD, List.getElem?_append_right (show vl.length ≤ k by omega), show k - vl.length = 0 by omega]
              rw [e3] at e
              simp only [Value.ownBlock, Option.some.injEq] at e
              omega)
        have hrl : ∀ k, k < (xss ++ [[1]]).length → (rowL (xss ++ [[1]]) k).length ≤ 20 := fun k hk => by
          by_cases hkl : k < xss.length
          · have e3 : rowL (xss ++ [[1]]) k = rowL xss k := by simp [rowL, List.getD_eq_getElem?_getD, List.getElem?_append_left hkl]
            rw [e3]; have := HMR.out.2 k hkl; omega
          · have e3 : rowL (xss ++ [[1]]) k = [1] := by simp [rowL, List.getD_eq_getElem?_getD, List.getElem?_append_right (show xss.length ≤ k by omega), show k - xss.length = 0 by omega]
            rw [e3]; simp
        have R3 := mat_end (a := a7) (c := c7) (xss := xss ++ [[1]]) (hz7.other (p := ⟨w4.heap.size, 0, none⟩) (.slice a7 (xss ++ [[1]]).length c7) (show w.heap.size ≠ w4.heap.size by omega)) ⟨a7, c7, vl ++ [.slice (some ⟨w6.heap.size, 0, none⟩) 1 1], xss ++ [[1]], (hr8 (.slice a7 (xss ++ [[1]]).length c7)).setBelow (p := ⟨w.heap.size, 0, none⟩) (show w.heap.size < w.heap.size + 1 by omega) _, .inl ⟨rfl, rfl⟩⟩ (by omega) (tot_fine hrl (by omega)) (hc7.set ⟨w4.heap.size, 0, none⟩ _ (show p < w4.heap.size by omega)) (hd7.set ⟨w4.heap.size, 0, none⟩ _ (show w.heap.size ≤ w4.heap.size by omega)) hpw
        have HR3 := Lib.hid R3
        rw [hl7] at HR3
        have ⟨⟨zm7, cm7⟩, fm7⟩ := hm7
        have ⟨⟨zz7, cz7⟩, fz7⟩ := hz7
        have ⟨⟨zz8, cz8⟩, fz8⟩ := hz7.other (p := ⟨w4.heap.size, 0, none⟩) (.slice a7 (xss.length + 1) c7) (show w.heap.size ≠ w4.heap.size by omega)
        clear R3 hrl hr8 hm7 hz7 hc7 hd7 hnb hlo hg7 hat7 hr7 hro hrow hcut cm cz zm zz fm fz
        go_wp2_with fail
        have R3 := HR3.out
        refine bodyPost_ret (v := .agg #[.slice a7 (xss.length + 1) c7]) (by have ⟨⟨⟨_, q1⟩, _⟩, _⟩ := R3; simp [results, Try.results95, go_sem, q1]) rfl ?_
        obtain ⟨_, a', c', xss', e', g1, g2, g3, g4, g5⟩ := R3
        exact ⟨a', c', xss', e', g1, g2, g3, g4.mono (by omega), g5⟩
      · have z1 : (r == 1) = false := by simpa using h1
        by_cases h2 : r = 2
        · subst h2
          have ⟨⟨zm, cm⟩, fm⟩ := HK.out.m
          have ⟨⟨zz, cz⟩, fz⟩ := HK.out.z
          by_cases hl1 : 1 < xss.length
          · have l1 : (1 : Int) < (xss.length : Int) := by omega
            obtain ⟨g, ea, hg0, hg1, _, _⟩ := HK.out.r.outer (k := 0) (by omega)
            subst ea
            have hcp := rows_cap HK.out.r
            have hxl := HMR.out.1
            have hlen : (xss.drop 1).length = xss.length - 1 := by simp
            go_wp2_with fail
            have hZ2 := HK.out.z.other (p := ⟨w4.heap.size, 0, none⟩) (.slice (some ⟨g, 1, none⟩) (xss.length - 1) (c4 - 1)) (show w.heap.size ≠ w4.heap.size by omega)
            have hC2 := HK.out.cu.set ⟨w4.heap.size, 0, none⟩ (.slice (some ⟨g, 1, none⟩) (xss.length - 1) (c4 - 1)) (show p < w4.heap.size by omega)
            have hD2 := HK.out.d.set ⟨w4.heap.size, 0, none⟩ (.slice (some ⟨g, 1, none⟩) (xss.length - 1) (c4 - 1)) (show w.heap.size ≤ w4.heap.size by omega)
            have hbx := HK.out.box (.slice (some ⟨g, 1, none⟩) (xss.length - 1) (c4 - 1))
            have R3 := mat_end (a := some ⟨g, 1, none⟩) (c := c4 - 1) (xss := xss.drop 1) hZ2 ⟨some ⟨g, 0, none⟩, c4, vl, xss, hbx.setBelow (p := ⟨w.heap.size, 0, none⟩) (show w.heap.size < w.heap.size + 1 by omega) _, .inr ⟨g, rfl, rfl, rfl⟩⟩ (by omega) (tot_fine (fun k hk => by have := HMR.out.2 (k+1) (by omega); have h9 : rowL (xss.drop 1) k = rowL xss (k + 1) := (by simp [rowL, Nat.add_comm 1 k]); rw [h9]; omega) (by omega)) hC2 hD2 hpw
            rw [hlen] at R3
            refine bodyPost_ret (v := .agg #[.slice (some ⟨g, 1, none⟩) (xss.length - 1) (c4 - 1)]) (by have ⟨⟨⟨_, q1⟩, _⟩, _⟩ := R3; simp [results, Try.results95, go_sem, q1]) rfl ?_
            obtain ⟨_, a', c', xss', e', g1, g2, g3, g4, g5⟩ := R3
            exact ⟨a', c', xss', e', g1, g2, g3, g4.mono (by omega), g5⟩
          · have l1 : ¬ (1 : Int) < (xss.length : Int) := by omega
            go_wp2_with fail
            have R3 := (HK.out.done (by have := HMR.out.1; omega) (fun k hk => by have h8 := HMR.out.1; have := HMR.out.2 k hk; omega))
            refine bodyPost_ret (v := .agg #[.slice a4 xss.length c4]) (by have ⟨⟨⟨_, q1⟩, _⟩, _⟩ := R3; simp [results, Try.results95, go_sem, q1]) rfl ?_
            obtain ⟨_, a', c', xss', e', g1, g2, g3, g4, g5⟩ := R3
            exact ⟨a', c', xss', e', g1, g2, g3, g4.mono (by omega), g5⟩
        · have z2 : (r == 2) = false := by simpa using h2
          have ⟨⟨zm, cm⟩, fm⟩ := HK.out.m
          have ⟨⟨zz, cz⟩, fz⟩ := HK.out.z
          go_wp2_with fail
          have R3 := (HK.out.done (by have := HMR.out.1; omega) (fun k hk => by have h8 := HMR.out.1; have := HMR.out.2 k hk; omega))
          refine bodyPost_ret (v := .agg #[.slice a4 xss.length c4]) (by have ⟨⟨⟨_, q1⟩, _⟩, _⟩ := R3; simp [results, Try.results95, go_sem, q1]) rfl ?_
          obtain ⟨_, a', c', xss', e', g1, g2, g3, g4, g5⟩ := R3
          exact ⟨a', c', xss', e', g1, g2, g3, g4.mono (by omega), g5⟩

theorem l1All_any (a : Option Addr) (xs : List Int) (cap : Nat) (lo hi : Int) (w : World) (hx : Rd w a xs) :
    Calls Try.prog 91 #[.slice a xs.length cap, .int .i64 lo, .int .i64 hi] w fun e w' => e = .returned (.bool (allB xs lo hi)) ∧ w = w' := by
  have hlen := hx.len
  go_enter Try.func91, Try.ntmps91
  go_wp2_with fail
  go_loop [11] (fun i => ∃ k : Nat, k ≤ xs.length ∧ i = .int .i64 k ∧ allB (xs.take k) lo hi = true) (fun i => xs.length - (intOf i).toNat)
  case atStart => exact ⟨0, Nat.zero_le _, rfl, rfl⟩
  case round =>
    obtain ⟨k, hk, rfl, hall⟩ := hrel
    by_cases hlt : k < xs.length
    · obtain ⟨b, off, rfl, hbl, hc⟩ := hx.cell k hlt
      cases hin : inB (nth xs k) lo hi
      · have hf := Lib.hid (allB_false hlt hin)
        go_wp2_with (go_at_call 78; refine (l1In_any _ _ _ _).mono ?_; rintro e w' ⟨rfl, rfl⟩)
        go_ret
        exact ⟨ret_bool hf.out.symm, rfl⟩
      · go_wp2_with (go_at_call 78; refine (l1In_any _ _ _ _).mono ?_; rintro e w' ⟨rfl, rfl⟩)
        go_round
        case rel => exact ⟨k + 1, by omega, by go_num, by rw [allB_take _ _ _ _ hlt, hall, hin]; rfl⟩
        case measure => simp [intOf]; omega
    · go_wp2_with fail
      go_ret
      exact ⟨ret_bool (by rw [← hall, List.take_of_length_le (by omega)]), rfl⟩
theorem l1All_is {a : Option Addr} {xs : List Int} {cap : Nat} {lo hi : Int} {b : Bool} {w : World} (hx : Rd w a xs) (h : allB xs lo hi = b) (m : Nat) :
    Calls Try.prog 91 #[.slice a xs.length cap, .int .i64 lo, .int .i64 hi] (w.drewN m) fun e w' => e = .returned (.bool b) ∧ ∃ k, w' = w.drewN k :=
  Calls.quiet_of_same ((l1All_any a xs cap lo hi (w.drewN m) (hx.below (Joins.below_draws _ _ _))).mono (fun e w' hh => ⟨by rw [← h]; exact hh.1, hh.2.symm⟩))

theorem orRelation_any (n : Int) (a : Option Addr) (xs : List Int) (cap : Nat) (w : World) (hx : Rd w a xs) :
    Calls Try.prog 155 #[.agg #[.int .i64 n, .slice a xs.length cap]] w fun e w' => e = .returned (.bool (relB n xs)) ∧ Below w.heap.size w w' := by
  have hx1 := hx.alloc (.cells #[.int .i64 n, .slice a xs.length cap] 28)
  cases h1 : inB n 0 10
  · have HR : Hid (relB n xs = false) := by simp [Hid, relB, h1]
    go_enter Try.func155, Try.ntmps155
    go_wp2_with fail
    go_quiet ((go_at_call 78; exact l1In_is h1 _ _))
    go_wp2_with fail
    go_ret
    exact ⟨ret_bool HR.out.symm, (Below.refl _ _).alloc (Nat.le_refl _) _ |>.trans (Joins.below_draws _ _ _)⟩
  · have hn := inB_iff.1 h1
    cases h2 : ((xs.length : Int) == n)
    · have HR : Hid (relB n xs = false) := by
        have : ¬ (xs.length : Int) = n := by simpa using h2
        simp [Hid, relB, h1, this]
      go_enter Try.func155, Try.ntmps155
      go_wp2_with fail
      go_quiet ((go_at_call 78; exact l1In_is h1 _ _))
      go_wp2_with fail
      go_ret
      exact ⟨ret_bool HR.out.symm, (Below.refl _ _).alloc (Nat.le_refl _) _ |>.trans (Joins.below_draws _ _ _)⟩
    · cases h3 : allB xs 0 (wrap64 (wrap64 (2 ^ n.toNat) - 1))
      all_goals
        have HR : Hid (relB n xs = allB xs 0 (wrap64 (wrap64 (2 ^ n.toNat) - 1))) := by
          have : (xs.length : Int) = n := by simpa using h2
          simp only [Hid, relB, h1, this, full_eq hn.1 hn.2]
          simp
        have H3 := Lib.hid h3
        clear h3
        go_enter Try.func155, Try.ntmps155
        go_wp2_with fail
        go_quiet ((first | (go_at_call 78; exact l1In_is h1 _ _) | (go_at_call 91; exact l1All_is hx1 H3.out _)))
        go_wp2_with fail
        go_ret
        exact ⟨ret_bool (by rw [HR.out, H3.out]), (Below.refl _ _).alloc (Nat.le_refl _) _ |>.trans (Joins.below_draws _ _ _)⟩

theorem orHas_any (s i : Int) (w : World) (h0 : 0 ≤ s) (h1 : s ≤ 9223372036854775807) (hi : 0 ≤ i) :
    Calls Try.prog 118 #[.int .i64 s, .int .i64 i] w fun e w' => e = .returned (.bool (hasB s i)) ∧ w = w' := by
  have H := Lib.hid (has_mod h0 h1 hi)
  go_enter Try.func118, Try.ntmps118
  go_wp2
  go_ret
  exact ⟨ret_bool H.out, rfl⟩

def belows (xs : List Int) (k : Nat) : List Int := fmap (fun i => ((belowTo xs i xs.length : Nat) : Int)) k
theorem belows_len (xs : List Int) (k : Nat) : (belows xs k).length = k := fmap_len _ _

def mirN (n : Int) (xs : List Int) : Int := if relB n xs then n else 0
def mirL (n : Int) (xs : List Int) : List Int := if relB n xs then belows xs xs.length else []
theorem mirL_len (n : Int) (xs : List Int) : (mirL n xs).length ≤ 1048576 := by
  unfold mirL
  split
  · rename_i h
    have hp := relB_p h
    have := hp.len
    have := hp.n1
    rw [belows_len]
    omega
  · simp
/-- what a call hands back that makes an order -/
def GotO (w : World) (n : Int) (ys : List Int) (ok : Bool) (e : Ending) (w' : World) : Prop :=
  ∃ a cap, e = .returned (.tuple #[.agg #[.int .i64 n, .slice a ys.length cap], .bool ok]) ∧ OwnI w' w.heap.size (.slice a ys.length cap) ys ∧ Below w.heap.size w w'

theorem sCloseRelation_any (n : Int) (a : Option Addr) (xs : List Int) (cap : Nat) (w : World) (hn : -9223372036854775808 ≤ n ∧ n ≤ 9223372036854775807) (hx : Rd w a xs) :
    Calls Try.prog 175 #[.agg #[.int .i64 n, .slice a xs.length cap]] w (GotO w (cloN n xs) (cloL n xs) (relB n xs)) := by
  have hx1 := (hx.alloc (.cells #[.int .i64 n, .slice a xs.length cap] 28)).alloc (.cells #[.int .i64 0, .slice none 0 0] 28)
  cases hr : relB n xs
  · have H1 : Hid (cloN n xs = 0) := by simp [Hid, cloN, hr]
    have H2 : Hid (cloL n xs = []) := by simp [Hid, cloL, hr]
    go_enter Try.func175, Try.ntmps175
    go_wp2_with fail
    refine (orRelation_any _ _ _ _ _ hx1).mono ?_
    rintro e w1 ⟨rfl, hb1⟩
    have hz := hb1.size
    simp only [World.size_alloc] at hz
    obtain ⟨hc, hf⟩ := bcell hb1
    have bw1 : Below w.heap.size w w1 := Below.trans (by repeat (first | exact Below.refl _ _ | assumption | refine Below.alloc ?_ (by first | exact Nat.le_refl _ | (simp only [World.size_alloc, World.size_setCell, World.size_drew]; omega) | omega) _ | refine Below.setCell ?_ (by first | exact Nat.le_refl _ | (simp only [World.size_alloc, World.size_setCell, World.size_drew]; omega) | omega) _ | refine Below.drew ?_)) (hb1.mono (by first | (simp only [World.size_alloc, World.size_setCell, World.size_drew]; omega) | omega))
    go_wp2_with fail
    refine bodyPost_ret (v := .tuple #[.agg #[.int .i64 0, .slice none 0 0], .bool false]) (by simp [results, Try.results175, go_sem, hc]) rfl ?_
    refine ⟨none, 0, ?_, ?_, ?_⟩
    · rw [H1.out, H2.out]; rfl
    · rw [H2.out]; exact OwnI.nil _ _
    · exact (bw1.setCell (by simp) _).setCell (by simp) _
  · have hp := relB_p hr
    have hsm := hp.sm
    have hl10 : xs.length ≤ 10 := by have := hp.len; have := hp.n1; omega
    have H1 : Hid (cloN n xs = n) := by simp [Hid, cloN, hr]
    have H2 : Hid (cloL n xs = clAll xs xs.length) := by simp [Hid, cloL, hr]
    go_enter Try.func175, Try.ntmps175
    go_wp2_with fail
    refine (orRelation_any _ _ _ _ _ hx1).mono ?_
    rintro e w1 ⟨rfl, hb1⟩
    have A1 : Box2 w1 w.heap.size (.int .i64 n) (.slice a xs.length cap) := ((Box2.new w _ _ _).below ((Below.refl _ _).alloc (Nat.le_refl _) _)).below hb1
    have R1 : Var2 w1 (w.heap.size + 1) (.int .i64 0) (.slice none 0 0) := by
      have := (Var2.new (w.alloc (.cells #[.int .i64 n, .slice a xs.length cap] 28)) (.int .i64 0) (.slice none 0 0) 28).below hb1
      simpa using this
    have ⟨zA, cA, dA⟩ := A1
    have bw1 : Below w.heap.size w w1 := Below.trans (by repeat (first | exact Below.refl _ _ | assumption | refine Below.alloc ?_ (by first | exact Nat.le_refl _ | (simp only [World.size_alloc, World.size_setCell, World.size_drew]; omega) | omega) _ | refine Below.setCell ?_ (by first | exact Nat.le_refl _ | (simp only [World.size_alloc, World.size_setCell, World.size_drew]; omega) | omega) _ | refine Below.drew ?_)) (hb1.mono (by first | (simp only [World.size_alloc, World.size_setCell, World.size_drew]; omega) | omega))
    have hz1 : w.heap.size + 2 ≤ w1.heap.size := by have := R1.1.1; omega
    clear hb1
    go_wp2_with fail
    go_cut [4] (fun s4 wx => ∃ (b4 : Nat) (a2 : Option Addr) (cap2 : Nat), s4 = .pointer (some ⟨b4, 0, none⟩) ∧ Box2 wx b4 (.int .i64 n) (.slice a2 xs.length cap2) ∧ OwnI wx (w.heap.size + 2) (.slice a2 xs.length cap2) xs ∧ (∀ b, (Value.slice a2 xs.length cap2).ownBlock = some b → b ≠ b4) ∧ w.heap.size + 2 ≤ b4 ∧ Below w.heap.size w wx ∧ Var2 wx (w.heap.size + 1) (.int .i64 0) (.slice none 0 0))
    case first =>
      go_region_held3 (fun w' => w'.cell? ⟨w.heap.size, 0, none⟩ = some (.int .i64 n) ∧ w'.cell? ⟨w.heap.size, 1, none⟩ = some (.slice a xs.length cap))
        (first | exact ⟨A3.2.1, A3.2.2⟩ | exact ⟨A2.2.1, A2.2.2⟩ | exact ⟨(A1.below ((Below.refl _ _).alloc (Nat.le_refl _) _).drew).2.1, (A1.below ((Below.refl _ _).alloc (Nat.le_refl _) _).drew).2.2⟩ | exact ⟨(A2.below ((Below.refl _ _).alloc (Nat.le_refl _) _)).2.1, (A2.below ((Below.refl _ _).alloc (Nat.le_refl _) _)).2.2⟩ | go_keep)
        (first | (go_at_call 130; refine (l1Own_any _ _ _ (w1.alloc (.cells #[.int .i64 0, .slice none 0 0] 28)).drew (hx.below (bw1.alloc bw1.size _).drew) (by omega)).mono ?_; rintro e w2 ⟨a2, cap2, rfl, ho2, hb2⟩; have ht2 : Below w1.heap.size w1 w2 := Below.trans ((Below.refl _ _).alloc (Nat.le_refl _) (.cells #[.int .i64 0, .slice none 0 0] 28)).drew (hb2.mono (by simp)); have A2 := A1.below ht2; have A3 := (A2.set (p := ⟨w1.heap.size, 0, none⟩) (.int .i64 n) (show w.heap.size ≠ w1.heap.size by omega)).set (p := ⟨w1.heap.size, 1, none⟩) (.slice a2 xs.length cap2) (show w.heap.size ≠ w1.heap.size by omega); have V2 : Var2 w2 w1.heap.size (.int .i64 0) (.slice none 0 0) := Var2.below (w := (w1.alloc (.cells #[.int .i64 0, .slice none 0 0] 28)).drew) (Var2.new w1 _ _ _) hb2; have ⟨⟨zV2, cV2, dV2⟩, fV2, gV2⟩ := V2) | (go_at_call 130; refine (l1Own_any _ _ _ w1.drew (hx.below bw1.drew) (by omega)).mono ?_; rintro e w2 ⟨a2, cap2, rfl, ho2, hb2⟩; have ht2 : Below w1.heap.size w1 w2 := Below.trans (Below.refl _ w1).drew (hb2.mono (show w1.heap.size ≤ w1.heap.size by omega)); have A2 := A1.below ht2; have z12 : w1.heap.size ≤ w2.heap.size := ht2.size))
      all_goals go_wp2_with fail
      · go_meet
        have bw2 := bw1.trans (ht2.mono bw1.size)
        have ho3 : OwnI w2 (w.heap.size + 2) (.slice a2 xs.length cap2) xs := ho2.mono (show w.heap.size + 2 ≤ w1.heap.size from hz1)
        exact ⟨w2.heap.size, a2, cap2, rfl, Box2.new _ _ _ _, ho3.alloc _, fun b e => by have := (ho2.lt b e).2; omega, by omega, bw2.alloc bw2.size _, (R1.below ht2).alloc _⟩
      · go_meet
        have bw2 := bw1.trans (ht2.mono bw1.size)
        have R3 := ((R1.below ht2).other (p := ⟨w1.heap.size, 0, none⟩) (.int .i64 n) (show w.heap.size + 1 ≠ w1.heap.size by omega)).other (p := ⟨w1.heap.size, 1, none⟩) (.slice a2 xs.length cap2) (show w.heap.size + 1 ≠ w1.heap.size by omega)
        have ho3 : OwnI _ (w.heap.size + 2) (.slice a2 xs.length cap2) xs := ((ho2.setBelow (p := ⟨w1.heap.size, 0, none⟩) (by simp) (.int .i64 n)).setBelow (p := ⟨w1.heap.size, 1, none⟩) (by simp) (.slice a2 xs.length cap2)).mono (B' := w.heap.size + 2) (by simp; omega)
        exact ⟨w1.heap.size, a2, cap2, rfl, (V2.set (.int .i64 n) (.slice a2 xs.length cap2)).1, ho3, fun b e => by have := (ho2.lt b e).1; simp at this; omega, hz1, (bw2.setCell (p := ⟨w1.heap.size, 0, none⟩) bw1.size (.int .i64 n)).setCell (p := ⟨w1.heap.size, 1, none⟩) bw1.size (.slice a2 xs.length cap2), R3⟩
    case rest =>
    obtain ⟨b4, a2, cap2, rfl, V3, ho3, U2, hb4, bw3, R3⟩ := hcut
    have ⟨zV3, cV3, dV3⟩ := V3
    clear A1 R1 cA dA
    go_wp2_with fail
    go_loopw [20] (fun i wr => ∃ k : Nat, k ≤ xs.length ∧ i = .int .i64 k ∧ OwnI wr (w.heap.size + 2) (.slice a2 xs.length cap2) (clAll xs k) ∧ Below w.heap.size w wr ∧ Box2 wr b4 (.int .i64 n) (.slice a2 xs.length cap2) ∧ Var2 wr (w.heap.size + 1) (.int .i64 0) (.slice none 0 0)) (fun i _ => xs.length - (intOf i).toNat)
    case atStart => exact ⟨0, Nat.zero_le _, rfl, ho3, bw3, V3, R3⟩
    case round =>
      obtain ⟨k, hk, rfl, hown, hb, hA, hR⟩ := hrel
      have ⟨zA, cA, dA⟩ := hA
      by_cases hlt : k < xs.length
      · go_wp2_with fail
        obtain ⟨wo, hwo⟩ : ∃ wo : World, wo = wr := ⟨_, rfl⟩
        go_loopw [26] (fun i wi => ∃ j : Nat, j ≤ xs.length ∧ i = .int .i64 j ∧ OwnI wi (w.heap.size + 2) (.slice a2 xs.length cap2) (clRow (clAll xs k) k j) ∧ Below w.heap.size w wi ∧ Box2 wi b4 (.int .i64 n) (.slice a2 xs.length cap2) ∧ Var2 wi (w.heap.size + 1) (.int .i64 0) (.slice none 0 0)) (fun i _ => xs.length - (intOf i).toNat)
        case atStart => exact ⟨0, Nat.zero_le _, rfl, hown, hb, hA, hR⟩
        case round =>
          obtain ⟨j, hj, rfl, hown, hb, hA, hR⟩ := hrel
          have ⟨zI, cI, dI⟩ := hA
          by_cases hjl : j < xs.length
          · obtain ⟨ys, hys⟩ : ∃ ys, ys = clRow (clAll xs k) k j := ⟨_, rfl⟩
            have hyl : ys.length = xs.length := by rw [hys, clRow_len, clAll_len]
            have hysm : Small ys := by rw [hys]; exact clRow_small (clAll_small hsm k hk) (by rw [clAll_len]; exact hlt) j (by rw [clAll_len]; exact hj)
            have hnext : clRow (clAll xs k) k (j + 1) = clStep ys k j := by rw [hys]; rfl
            rw [← hys] at hown
            obtain ⟨g, rfl, hg1, hg2⟩ := hown.head (by omega)
            have hgu := U2 g rfl
            have ⟨ci, fi⟩ := hown.at' hyl.symm (i := j) (by omega)
            have ⟨ck, fk⟩ := hown.at' hyl.symm (i := k) (by omega)
            have ⟨s0, s1⟩ := hysm j (by omega)
            have ⟨t0, t1⟩ := hysm k (by omega)
            have s2 : nth ys j ≤ 9223372036854775807 := by omega
            have hor := or_i (a := nth ys j) (b := nth ys k) s0 (by omega) t0 (by omega)
            have hput := hown.put hyl.symm j (bits .or .i64 (nth ys j) (nth ys k))
            rw [hor] at hput
            have HY := Lib.hid hyl
            have HN := Lib.hid hnext
            have HO := Lib.hid hor
            have HP := Lib.hid hput
            have j0 : (0 : Int) ≤ (j : Int) := by omega
            have j1 : (j : Int) < (xs.length : Int) := by omega
            have k0 : (0 : Int) ≤ (k : Int) := by omega
            have k1 : (k : Int) < (xs.length : Int) := by omega
            clear hys hyl hysm hnext hor hput
            cases hin : hasB (nth ys j) k
            · go_wp2_with fail
              refine (orHas_any _ _ _ s0 s2 k0).mono ?_
              rintro e w' ⟨rfl, rfl⟩
              go_wp2_with fail
              go_roundw
              case rel => exact ⟨j + 1, by omega, by go_num, by rw [HN.out, clStep, hin]; exact hown, hb, hA, hR⟩
              case measure => simp [intOf]; omega
            · go_wp2_with fail
              refine (orHas_any _ _ _ s0 s2 k0).mono ?_
              rintro e w' ⟨rfl, rfl⟩
              go_wp2_with fail
              go_region
              all_goals
                go_wp2_with fail
                go_roundw
                case rel =>
                  refine ⟨j + 1, by omega, by go_num, ?_, ?_, ?_, ?_⟩
                  · rw [HN.out, clStep, hin, if_pos rfl, ← HO.out]
                    have := HP.out.1
                    rw [← HO.out] at this
                    exact this
                  · exact (hb.drew).setCell (p := ⟨g, j, none⟩) (show w.heap.size ≤ g by omega) _
                  · exact hA.set (p := ⟨g, j, none⟩) _ (show b4 ≠ g by omega)
                  · exact hR.other (p := ⟨g, j, none⟩) _ (show w.heap.size + 1 ≠ g by omega)
                case measure => simp [intOf]; omega
          · obtain rfl : j = xs.length := by omega
            go_wp2_with fail
            go_roundw
            case rel => exact ⟨k + 1, by omega, by go_num, by show OwnI wr _ _ (clRow (clAll xs k) k xs.length); exact hown, hb, hA, hR⟩
            case measure => simp [intOf]; omega
      · obtain rfl : k = xs.length := by omega
        have ⟨⟨zR, cR, dR⟩, fR, gR⟩ := hR
        go_wp2_with fail
        have R3 := hR.set (.int .i64 n) (.slice a2 xs.length cap2)
        refine bodyPost_ret (v := .tuple #[.agg #[.int .i64 n, .slice a2 xs.length cap2], .bool true]) (by have ⟨⟨_, q1, q2⟩, _, _⟩ := R3; simp [results, Try.results175, go_sem, q1, q2]) rfl ?_
        refine ⟨a2, cap2, ?_, ?_, ?_⟩
        · rw [H1.out, H2.out, clAll_len]
        · rw [H2.out, clAll_len]
          exact ((hown.setBelow (p := ⟨w.heap.size + 1, 0, none⟩) (show w.heap.size + 1 < w.heap.size + 2 by omega) _).setBelow (p := ⟨w.heap.size + 1, 1, none⟩) (show w.heap.size + 1 < w.heap.size + 2 by omega) _).mono (by omega)
        · exact (hb.setCell (p := ⟨w.heap.size + 1, 0, none⟩) (show w.heap.size ≤ w.heap.size + 1 by omega) _).setCell (p := ⟨w.heap.size + 1, 1, none⟩) (show w.heap.size ≤ w.heap.size + 1 by omega) _

/-- quiet operations in one world leave it as it is -/
theorem still_of_quiet {P : Program} {o : Oper} {a : Act} {w : World} {K : Act → Prop} (h : o.quiet P a (fun w' => w' = w) K) : o.still P a w K := by
  obtain ⟨v, h1, h2⟩ := h
  have h3 := h1 w rfl
  unfold Oper.quietAt at h3
  unfold Oper.still
  generalize (execOp a.eval o).run P w = r at h3
  cases r with
  | ok n w' =>
    cases n <;> simp only [Oper.quietUpon] at h3 <;> simp only [Oper.stillUpon]
    case value u => exact ⟨h3.1, by rw [h3.2]; exact h2⟩
    case skip => exact ⟨h3.1, by rw [← h3.2]; exact h2⟩
    case enter f args => exact ⟨h3.1, v, h3.2, h2⟩
  | halt x w' => simp only [Oper.quietUpon] at h3
theorem wpStill_of_quiet {P : Program} {ops : Array Oper} {w : World} {Q : Act → Prop} : ∀ (l : List Oper) (a : Act), wpQuiet P ops (fun w' => w' = w) Q l a → wpStill P ops w Q l a
  | [], a, h => h
  | o :: rest, a, h => by
    unfold wpQuiet at h
    unfold wpStill
    split
    · rename_i hw
      rw [if_pos hw] at h
      exact Oper.still_mono (fun a' h' => wpStill_of_quiet rest a' h') (still_of_quiet h)
    · rename_i hw
      rw [if_neg hw] at h
      exact wpStill_of_quiet rest _ h
/-- a region that draws its order: all operations but the last ones are quiet -/
theorem wp_region_quiet_tail {P : Program} {id : Nat} {Q : Exit → Act → World → Prop} {a : Act} {w : World} {l : List Oper} (n : Nat) (hm : P.follows .mixedOrders = true) (hB : Region.lexTailB .any l.toArray n = true)
    (h : wpQuiet P l.toArray (fun w' => w' = w.drew) (fun a' => wpList P l.toArray Q (l.drop n) a' w.drew) (l.take n) a) : (Code.region id l.toArray true).wp P Q a w :=
  wp_region_still_tail n hm hB (wpStill_of_quiet _ _ h)

/-- two lists, each in a block of its own -/
def Apart (v u : Value) : Prop := ∀ c, v.ownBlock = some c → u.ownBlock ≠ some c
theorem apart_nil (u : Value) : Apart (.slice none 0 0) u := fun c e => by simp [Value.ownBlock] at e
theorem Apart.left {v v' u : Value} {w : World} {B : Nat} {xs : List Int} (h : Apart v u) (hu : OwnI w B u xs) (hv : v'.ownBlock = v.ownBlock ∨ ∃ g, v'.ownBlock = some g ∧ w.heap.size ≤ g) : Apart v' u := fun c e e2 => by
  rcases hv with e3 | ⟨g, e3, hg⟩
  · exact h c (by rw [← e3]; exact e) e2
  · rw [e3] at e; simp only [Option.some.injEq] at e; have := (hu.lt c e2).2; omega
theorem Apart.right {v u u' : Value} {w : World} {B : Nat} {xs : List Int} (h : Apart v u) (hv : OwnI w B v xs) (hu : u'.ownBlock = u.ownBlock ∨ ∃ g, u'.ownBlock = some g ∧ w.heap.size ≤ g) : Apart v u' := fun c e e2 => by
  rcases hu with e3 | ⟨g, e3, hg⟩
  · exact h c e (by rw [← e3]; exact e2)
  · rw [e3] at e2; simp only [Option.some.injEq] at e2; have := (hv.lt c e).2; omega
theorem Apart.own {v u : Value} (h : Apart v u) : v.ownBlock = none ∨ v.ownBlock ≠ u.ownBlock := own_ne (fun c e e2 => h c e e2)
theorem Apart.own' {v u : Value} (h : Apart v u) : u.ownBlock = none ∨ u.ownBlock ≠ v.ownBlock := own_ne (fun c e e2 => h c e2 e)
theorem zeros_small (n : Nat) : ∀ j, j < n → 0 ≤ nth (List.replicate n (0 : Int)) j ∧ nth (List.replicate n (0 : Int)) j < 1024 := fun j hj => by
  have e : nth (List.replicate n (0 : Int)) j = 0 := by simp [nth, hj]
  rw [e]; omega
/-- what holds while the pairs are drawn -/
structure OrdInv (w : World) (Z G V B p c n : Nat) (lv rv : Value) (ls rs : List Int) : Prop where
  ex : ∃ xs : List Int, xs.length = n ∧ OwnI w G (.slice (some ⟨G, 0, none⟩) n n) xs ∧ (∀ k, k < n → 0 ≤ nth xs k ∧ nth xs k < 1024) ∧ Var2 w V (.int .i64 (n : Int)) (.slice (some ⟨G, 0, none⟩) n n) ∧ Var2 w Z (.int .i64 0) (.slice none 0 0) ∧ OwnI w B lv ls ∧ OwnI w B rv rs ∧ Cur w p c
theorem OrdInv.mono {w : World} {Z G V B p c c' n : Nat} {lv rv : Value} {ls rs : List Int} (h : OrdInv w Z G V B p c n lv rv ls rs) (hc : c ≤ c') : OrdInv w Z G V B p c' n lv rv ls rs := by
  obtain ⟨xs, h1, h2, h3, h4, h5, h6, h7, h8⟩ := h.ex
  exact ⟨xs, h1, h2, h3, h4, h5, h6, h7, h8.mono hc⟩
theorem OrdInv.drawn {w w' : World} {Z G V B p c n c' : Nat} {lv rv : Value} {ls rs : List Int} (h : OrdInv w Z G V B p c n lv rv ls rs) (hd : Drawn w w' p) (hc : Cur w' p c') (hZ : p < Z) (hG : p < G) (hV : p < V) (hB : p < B) : OrdInv w' Z G V B p c' n lv rv ls rs := by
  obtain ⟨xs, h1, h2, h3, h4, h5, h6, h7, h8⟩ := h.ex
  exact ⟨xs, h1, h2.drawn hd hG, h3, h4.drawn hd (by omega), h5.drawn hd (by omega), h6.drawn hd hB, h7.drawn hd hB, hc⟩
theorem OrdInv.drawnN {w : World} {Z G V B p c n c' k : Nat} {lv rv : Value} {ls rs : List Int} (h : OrdInv w Z G V B p c n lv rv ls rs) (hc : c ≤ c') : OrdInv (w.drewN k) Z G V B p c' n lv rv ls rs := by
  obtain ⟨xs, h1, h2, h3, h4, h5, h6, h7, h8⟩ := h.ex
  have b := Joins.below_draws w.heap.size w k
  exact ⟨xs, h1, h2.below b (Nat.le_refl _), h3, h4.below b, h5.below b, h6.below b (Nat.le_refl _), h7.below b (Nat.le_refl _), (h8.below b).mono hc⟩
theorem OrdInv.below {w w' : World} {Z G V B p c n : Nat} {lv rv : Value} {ls rs : List Int} (h : OrdInv w Z G V B p c n lv rv ls rs) (b : Below w.heap.size w w') : OrdInv w' Z G V B p c n lv rv ls rs := by
  obtain ⟨xs, h1, h2, h3, h4, h5, h6, h7, h8⟩ := h.ex
  exact ⟨xs, h1, h2.below b (Nat.le_refl _), h3, h4.below b, h5.below b, h6.below b (Nat.le_refl _), h7.below b (Nat.le_refl _), h8.below b⟩
theorem OrdInv.put {w W' : World} {Z G V B p c c' n a : Nat} {lv rv : Value} {ls rs xs : List Int} (hl : xs.length = n) (ho : OwnI w G (.slice (some ⟨G, 0, none⟩) n n) xs) (hx : ∀ k, k < n → 0 ≤ nth xs k ∧ nth xs k < 1024) (hV : Var2 w V (.int .i64 (n : Int)) (.slice (some ⟨G, 0, none⟩) n n)) (hZ : Var2 w Z (.int .i64 0) (.slice none 0 0)) (hA : OwnI w B lv ls) (hB : OwnI w B rv rs) (hc : Cur w p c)
    (hb : Below w.heap.size w W') (ha : a < n) (y : Nat) (hy : y < 1024) (hc' : c ≤ c') (h1 : G < B) (h2 : V ≠ G) (h3 : Z ≠ G) (h4 : p < G) : OrdInv (W'.setCell ⟨G, a, none⟩ (.int .i64 (y : Int))) Z G V B p c' n lv rv ls rs := by
  have hput := ((ho.below hb (Nat.le_refl _)).put hl.symm a (y : Int)).1
  refine ⟨xs.set a (y : Int), by simp; exact hl, hput, fun j hj => ?_, (hV.below hb).other (p := ⟨G, a, none⟩) _ h2, (hZ.below hb).other (p := ⟨G, a, none⟩) _ h3, (hA.below hb (Nat.le_refl _)).setBelow (p := ⟨G, a, none⟩) h1 _, (hB.below hb (Nat.le_refl _)).setBelow (p := ⟨G, a, none⟩) h1 _, ((hc.below hb).set ⟨G, a, none⟩ _ h4).mono hc'⟩
  by_cases e : j = a
  · rw [e, nth_set (by omega), if_pos rfl]; omega
  · rw [nth_set (by omega), if_neg (fun h => e h.symm)]; exact hx j hj
theorem cloN_len (n : Int) (xs : List Int) : cloN n xs = ((cloL n xs).length : Int) := by
  unfold cloN cloL
  cases h : relB n xs
  · simp
  · simp only [if_true, clAll_len]
    exact (relB_p h).len.symm
theorem cloL_le (n : Int) (xs : List Int) : (cloL n xs).length ≤ xs.length := by
  unfold cloL
  split
  · rw [clAll_len]; exact Nat.le_refl _
  · simp
theorem cloL_small {n : Int} {xs : List Int} (h : ∀ k, k < xs.length → 0 ≤ nth xs k ∧ nth xs k < 1024) : ∀ k, k < (cloL n xs).length → 0 ≤ nth (cloL n xs) k ∧ nth (cloL n xs) k < 1024 := by
  unfold cloL
  split
  · exact clAll_small h _ (Nat.le_refl _)
  · intro k hk; simp at hk
set_option maxRecDepth 100000 in
set_option maxHeartbeats 2000000 in
theorem order_any (p L m : Nat) (w : World) (h : Cur w p L) (hL : L ≤ 700000000) (hm : m ≤ 10) :
    Calls Try.prog 160 #[.pointer (some ⟨p, 0, none⟩), .int .i64 (m : Int)] w fun e w' => ∃ a cap xs, e = .returned (.agg #[.int .i64 (xs.length : Int), .slice a xs.length cap]) ∧ OwnI w' w.heap.size (.slice a xs.length cap) xs ∧ xs.length ≤ m ∧ (∀ k, k < xs.length → 0 ≤ nth xs k ∧ nth xs k < 1024) ∧ Cur w' p (L + 400) ∧ Drawn w w' p := by
  obtain ⟨i0, hi, hz0, hz1, hz2⟩ := info_parts infoInt
  have hpw := h.lt
  have ha : Below w.heap.size w (w.alloc (.cells #[.int .i64 0, .slice none 0 0] 28)) := (by repeat (first | exact Below.refl _ _ | assumption | refine Below.alloc ?_ (by first | exact Nat.le_refl _ | (simp only [World.size_alloc, World.size_setCell, World.size_drew]; omega) | omega) _ | refine Below.setCell ?_ (by first | exact Nat.le_refl _ | (simp only [World.size_alloc, World.size_setCell, World.size_drew]; omega) | omega) _ | refine Below.drew ?_))
  have H := Lib.hid (h.below ha)
  have HR := Lib.hid (Var2.new w (.int .i64 0) (.slice none 0 0) 28)
  clear h
  go_enter Try.func160, Try.ntmps160
  go_wp2_with fail
  refine (pick_any p L ((m : Int) + 1) _ H.out (by omega) (by omega)).mono ?_
  rintro e w1 ⟨r, rfl, hr0, hr1, hc1, hd1⟩
  obtain ⟨n, rfl⟩ := Int.eq_ofNat_of_zero_le hr0
  have hn : n ≤ m := by omega
  have hs1 : w.heap.size + 1 ≤ w1.heap.size := by have := hd1.size; simpa using this
  have HC1 := Lib.hid hc1
  have HD1 := Lib.hid hd1.of_alloc
  have HR1 := Lib.hid (HR.out.drawn hd1 (by omega))
  clear hc1 hd1 hr0 hr1
  go_wp2_with (at_make; refine wpList_make_full _ rfl (.tmp 21) (.tmp 21) 26 rfl w1.heap.size 3 i0 (.int .i64 0) 1 Try.underlying26 hi hz0 hz1 .i64 .i64 _ _ n rfl rfl rfl rfl (by rw [hz2]; omega) (by unfold maxLen; omega) (Nat.le_refl _) ?_; intro w2 hown hgrow; revert hgrow)
  intro hgrow
  have b2 : Below w1.heap.size w1 w2 := (Below.refl _ _).grown hgrow (Nat.le_refl _) (fun k h => by cases h)
  have ho2 : OwnI w2 w1.heap.size (.slice (some ⟨w1.heap.size, 0, none⟩) n n) (List.replicate n 0) := by
    unfold OwnI
    simpa [Value.cells, toList_madeCells_one] using hown
  have hs2 : w1.heap.size < w2.heap.size := (ho2.lt w1.heap.size rfl).2
  have HB2 := Lib.hid b2
  have HO2 := Lib.hid ho2
  clear hown hgrow b2 ho2
  go_wp2_with fail
  have ba2 : Below w2.heap.size w2 (w2.alloc (.cells #[.int .i64 (n : Int), .slice (some ⟨w1.heap.size, 0, none⟩) n n] 28)) := (by repeat (first | exact Below.refl _ _ | assumption | refine Below.alloc ?_ (by first | exact Nat.le_refl _ | (simp only [World.size_alloc, World.size_setCell, World.size_drew]; omega) | omega) _ | refine Below.setCell ?_ (by first | exact Nat.le_refl _ | (simp only [World.size_alloc, World.size_setCell, World.size_drew]; omega) | omega) _ | refine Below.drew ?_))
  have b12 := HB2.out.trans (ba2.mono HB2.out.size)
  refine (pick_any p (L + 2) 3 _ (HC1.out.below b12) (by omega) (by omega)).mono ?_
  rintro e w3 ⟨kd, rfl, hkd0, hkd1, hc3, hd3⟩
  have hs3 : w2.heap.size + 1 ≤ w3.heap.size := by have := hd3.size; simpa using this
  have HC3 := Lib.hid hc3
  have HD3 := Lib.hid ((HD1.out.below b12).trans hd3)
  have HO3 := Lib.hid ((HO2.out.alloc (.cells #[.int .i64 (n : Int), .slice (some ⟨w1.heap.size, 0, none⟩) n n] 28)).drawn hd3 (by omega))
  have HV3 := Lib.hid ((Var2.new w2 (.int .i64 (n : Int)) (.slice (some ⟨w1.heap.size, 0, none⟩) n n) 28).drawn hd3 (by omega))
  have HR3 := Lib.hid ((HR1.out.below b12).drawn hd3 (by omega))
  clear hc3 hd3 ba2 b12 hkd1 HC1 HD1 HR1 HB2 HO2 H HR
  go_wp2_with fail
  go_loopw [8, 9, 10] (fun v u i wr => ∃ (k : Nat) (ls rs : List Int), k ≤ n ∧ i = .int .i64 k ∧ ls.length = k ∧ rs.length = k ∧ OwnI wr w3.heap.size v ls ∧ OwnI wr w3.heap.size u rs ∧ Apart v u ∧ Cur wr p (L + 4 + 4 * k) ∧ Drawn w3 wr p) (fun _ _ i _ => n - (intOf i).toNat)
  case atStart => exact ⟨0, [], [], Nat.zero_le _, rfl, rfl, rfl, OwnI.nil _ _, OwnI.nil _ _, apart_nil _, HC3.out, Drawn.refl _ _⟩
  case round =>
    obtain ⟨k, ls, rs, hk, rfl, hl1, hl2, hol, hor, hap, hc, hd⟩ := hrel
    obtain ⟨al, cl, rfl⟩ := hol.form
    obtain ⟨ar, cr, rfl⟩ := hor.form
    have hds := hd.size
    by_cases hlt : k < n
    · have k1 : (k : Int) < (n : Int) := by omega
      have HOL := Lib.hid hol
      have HOR := Lib.hid hor
      have HAP := Lib.hid hap
      have HC := Lib.hid hc
      have HD := Lib.hid hd
      have HL1 := Lib.hid hl1
      have HL2 := Lib.hid hl2
      clear hol hor hap hc hd hl1 hl2
      go_wp2_with fail
      refine (pick_any p (L + 4 + 4 * k) 8 _ HC.out (by omega) (by omega)).mono ?_
      rintro e w4 ⟨x, rfl, hx0, hx1, hc4, hd4⟩
      have hs4 := hd4.size
      have HC4 := Lib.hid hc4
      have HD4 := Lib.hid (HD.out.trans hd4)
      have HOL4 := Lib.hid (HOL.out.drawn hd4 (by omega))
      have HOR4 := Lib.hid (HOR.out.drawn hd4 (by omega))
      have hll : ls.length ≤ 1048576 := by have := HL1.out; omega
      have hb4 : w3.heap.size ≤ w4.heap.size := by omega
      clear hc4 hd4
      go_wp2_with (at_builtin; refine push_at (v := .slice al ls.length cl) (z := x) rfl _ _ rfl rfl HOL4.out rfl hll hb4 ?_; intro v5 w5 o5 hg5 hat5; revert hat5)
      intro hat5
      obtain ⟨a5, c5, ev5⟩ := o5.form
      subst ev5
      have hlo := HOL4.out.lt
      have hs5 := hg5.size
      have hap5 : Apart (.slice a5 (ls ++ [x]).length c5) (.slice ar rs.length cr) := HAP.out.left HOR4.out (hat5.imp id (fun h => ⟨_, h, by omega⟩))
      have hor5 := HOR4.out.kept hg5 HAP.out.own'
      have hc5 := HC4.out.kept hg5 (fun g e => by have := (hlo g e).1; omega)
      have hd5 := HD4.out.grown hg5 (fun c e => (hlo c e).1)
      have hll5 : (ls ++ [x]).length = k + 1 := by simp; exact HL1.out
      have HOL5 := Lib.hid o5
      have HOR5 := Lib.hid hor5
      have HAP5 := Lib.hid hap5
      have HC5 := Lib.hid hc5
      have HD5 := Lib.hid hd5
      have HLL5 := Lib.hid hll5
      have hrl : rs.length ≤ 1048576 := by have := HL2.out; omega
      have hb5 : w3.heap.size ≤ w5.heap.size := by omega
      obtain ⟨q, hq⟩ : ∃ q, q = ls ++ [x] := ⟨_, rfl⟩
      rw [← hq] at HOL5 HAP5 HLL5 ⊢
      clear o5 hg5 hat5 hlo hap5 hor5 hc5 hd5 hll5 hq
      cases hkd1 : (kd == 1)
      · go_wp2_with (at_builtin; refine push_at (v := .slice ar rs.length cr) (z := x + 2) rfl _ _ rfl rfl HOR5.out rfl hrl hb5 ?_; intro v6 w6 o6 hg6 hat6; revert hat6)
        intro hat6
        obtain ⟨a6, c6, ev6⟩ := o6.form
        subst ev6
        have hlo6 := HOR5.out.lt
        have hs6 := hg6.size
        have hap6 : Apart (.slice a5 q.length c5) (.slice a6 (rs ++ [x + 2]).length c6) := HAP5.out.right HOL5.out (hat6.imp id (fun h => ⟨_, h, by omega⟩))
        have hol6 := HOL5.out.kept hg6 HAP5.out.own
        have hc6 := HC5.out.kept hg6 (fun g e => by have := (hlo6 g e).1; omega)
        have hd6 := HD5.out.grown hg6 (fun c e => (hlo6 c e).1)
        have hll6 : (rs ++ [x + 2]).length = k + 1 := by simp; exact HL2.out
        have H6 := Lib.hid (And.intro hol6 (And.intro o6 (And.intro hap6 (And.intro hc6 hd6))))
        have HLL6 := Lib.hid hll6
        clear o6 hg6 hat6 hlo6 hap6 hol6 hc6 hd6 hll6
        go_wp2_with fail
        go_roundw
        case rel => exact ⟨k + 1, q, rs ++ [x + 2], by omega, by go_num, HLL5.out, HLL6.out, H6.out.1, H6.out.2.1, H6.out.2.2.1, H6.out.2.2.2.1.mono (by omega), H6.out.2.2.2.2⟩
        case measure => simp [intOf]; omega
      · go_wp2_with fail
        refine (pick_any p (L + 4 + 4 * k + 2) 4 _ HC5.out (by omega) (by omega)).mono ?_
        rintro e w8 ⟨y, rfl, hy0, hy1, hc8, hd8⟩
        have hs8 := hd8.size
        have HC8 := Lib.hid hc8
        have HOL8 := Lib.hid (HOL5.out.drawn hd8 (by omega))
        have HOR8 := Lib.hid (HOR5.out.drawn hd8 (by omega))
        have HD8 := Lib.hid (HD5.out.trans hd8)
        have hb8 : w3.heap.size ≤ w8.heap.size := by omega
        clear hc8 hd8
        go_wp2_with (at_builtin; refine push_at (v := .slice ar rs.length cr) (z := x + y) rfl _ _ rfl rfl HOR8.out rfl hrl hb8 ?_; intro v6 w6 o6 hg6 hat6; revert hat6)
        intro hat6
        obtain ⟨a6, c6, ev6⟩ := o6.form
        subst ev6
        have hlo6 := HOR8.out.lt
        have hs6 := hg6.size
        have hap6 : Apart (.slice a5 q.length c5) (.slice a6 (rs ++ [x + y]).length c6) := HAP5.out.right HOL8.out (hat6.imp id (fun h => ⟨_, h, by omega⟩))
        have hol6 := HOL8.out.kept hg6 HAP5.out.own
        have hc6 := HC8.out.kept hg6 (fun g e => by have := (hlo6 g e).1; omega)
        have hd6 := HD8.out.grown hg6 (fun c e => (hlo6 c e).1)
        have hll6 : (rs ++ [x + y]).length = k + 1 := by simp; exact HL2.out
        have H6 := Lib.hid (And.intro hol6 (And.intro o6 (And.intro hap6 (And.intro hc6 hd6))))
        have HLL6 := Lib.hid hll6
        clear o6 hg6 hat6 hlo6 hap6 hol6 hc6 hd6 hll6
        go_wp2_with fail
        go_roundw
        case rel => exact ⟨k + 1, q, rs ++ [x + y], by omega, by go_num, HLL5.out, HLL6.out, H6.out.1, H6.out.2.1, H6.out.2.2.1, H6.out.2.2.2.1.mono (by omega), H6.out.2.2.2.2⟩
        case measure => simp [intOf]; omega
    · obtain rfl : k = n := by omega
      have hsw : w3.heap.size ≤ wr.heap.size := hds
      have HL1 := Lib.hid hl1
      have HL2 := Lib.hid hl2
      have HIV : Hid (OrdInv wr w.heap.size w1.heap.size w2.heap.size w3.heap.size p (L + 4 + 4 * k) k (.slice al ls.length cl) (.slice ar rs.length cr) ls rs ∧ Drawn w wr p) :=
        ⟨⟨List.replicate k 0, by simp, HO3.out.drawn hd (by omega), zeros_small k, HV3.out.drawn hd (by omega), HR3.out.drawn hd (by omega), hol, hor, hc⟩, HD3.out.trans hd⟩
      obtain ⟨W4, hW4⟩ : ∃ x : World, x = wr := ⟨_, rfl⟩
      subst hW4
      clear hol hor hap hc hd hl1 hl2
      go_wp2_with fail
      go_loopw [12] (fun i wr => ∃ (a : Nat), a ≤ k ∧ i = .int .i64 a ∧ OrdInv wr w.heap.size w1.heap.size w2.heap.size w3.heap.size p (L + 4 + 4 * k + a * (2 * k)) k (.slice al ls.length cl) (.slice ar rs.length cr) ls rs ∧ Drawn w wr p) (fun i _ => k - (intOf i).toNat)
      case atStart => exact ⟨0, Nat.zero_le _, rfl, by simpa using HIV.out.1, HIV.out.2⟩
      case round =>
        obtain ⟨a, hak, rfl, hI, hd⟩ := hrel
        by_cases hal : a < k
        · have a1 : (a : Int) < (k : Int) := by omega
          have HI := Lib.hid hI
          have HD := Lib.hid hd
          obtain ⟨W5, hW5⟩ : ∃ x : World, x = wr := ⟨_, rfl⟩
          subst hW5
          clear hI hd
          go_wp2_with fail
          go_loopw [13] (fun j wr => ∃ (b : Nat), b ≤ k ∧ j = .int .i64 b ∧ OrdInv wr w.heap.size w1.heap.size w2.heap.size w3.heap.size p (L + 4 + 4 * k + a * (2 * k) + 2 * b) k (.slice al ls.length cl) (.slice ar rs.length cr) ls rs ∧ Drawn w wr p) (fun j _ => k - (intOf j).toNat)
          case atStart => exact ⟨0, Nat.zero_le _, rfl, HI.out, HD.out⟩
          case round =>
            obtain ⟨b, hbk, rfl, hI, hd⟩ := hrel
            by_cases hbl : b < k
            · have b1 : (b : Int) < (k : Int) := by omega
              have hkk : a * (2 * k) ≤ 200 := Nat.le_trans (Nat.mul_le_mul (show a ≤ 10 by omega) (show 2 * k ≤ 20 by omega)) (by omega)
              by_cases hk0 : kd = 0
              · subst hk0
                by_cases hab : a < b
                · have hab' : (a : Int) < (b : Int) := by omega
                  have HI2 := Lib.hid hI
                  have HD2 := Lib.hid hd
                  clear hI hd
                  have ⟨xs9, hl9, ho9, hx9, hV9, hZ9, hA9, hB9, hc9⟩ := HI2.out.ex
                  have HC9 := Lib.hid hc9
                  have HZ9 := Lib.hid hZ9
                  have c9 := hZ9.1.2.1
                  clear hl9 ho9 hx9 hV9 hZ9 hA9 hB9 hc9
                  go_wp2_with fail
                  refine wp_region_quiet_tail 23 (by kernel_rfl) (by kernel_rfl) ?_
                  simp only [List.take_succ_cons, List.take_zero, List.drop_succ_cons, List.drop_zero]
                  repeat (go_big_quiet_step (fail))
                  refine wpQuiet_nil ?_
                  have HI5 := Lib.hid (HI2.out.drawnN (k := 1) (c' := L + 4 + 4 * k + a * (2 * k) + 2 * b) (Nat.le_refl _))
                  have HD5 := Lib.hid (HD2.out.below (Joins.below_draws wr.heap.size wr 1))
                  have HC5 := Lib.hid (HC9.out.below (Joins.below_draws wr.heap.size wr 1))
                  go_wp2_with fail
                  refine (one_any p (L + 4 + 4 * k + a * (2 * k) + 2 * b) 3 _ HC5.out (by omega) (by omega)).mono ?_
                  rintro e w5 ⟨he, hc5, hd5⟩
                  have HI6 := Lib.hid (HI5.out.drawn hd5 hc5 (by omega) (by omega) (by omega) (by omega))
                  have HD6 := Lib.hid (HD5.out.trans hd5)
                  have hs5 := hd5.size
                  clear hc5 hd5 HI5 HD5 HC5
                  rcases he with rfl | rfl
                  · go_wp2_with fail
                    obtain ⟨xs, hl, ho, hx, hV, hZ, hA, hB, hc⟩ := HI6.out.ex
                    have ⟨ci, fi⟩ := ho.at' hl.symm (i := a) (by omega)
                    have hxa := hx a hal
                    obtain ⟨q, hq⟩ : ∃ q : Nat, nth xs a = (q : Int) := ⟨(nth xs a).toNat, by omega⟩
                    rw [hq] at ci hxa
                    have hq10 : q < 2 ^ 10 := by omega
                    have hor := or_bit (b := q) (k := b) (by omega) (by omega)
                    have hqb : q ||| 2 ^ b < 1024 := by
                      have := or_lt (a := q) (b := 2 ^ b) hq10 (two_lt (show b < 10 by omega)); omega
                    have ⟨⟨zV, cV, dV⟩, fV, gV⟩ := hV
                    have HN : Hid (∀ W', Below w5.heap.size w5 W' → OrdInv (W'.setCell ⟨w1.heap.size, a, none⟩ (.int .i64 ((q ||| 2 ^ b : Nat) : Int))) w.heap.size w1.heap.size w2.heap.size w3.heap.size p (L + 4 + 4 * k + a * (2 * k) + 2 * (b + 1)) k (.slice al ls.length cl) (.slice ar rs.length cr) ls rs ∧ Drawn w (W'.setCell ⟨w1.heap.size, a, none⟩ (.int .i64 ((q ||| 2 ^ b : Nat) : Int))) p) := fun W' hb =>
                      ⟨OrdInv.put hl ho hx hV hZ hA hB hc hb hal _ hqb (by omega) (by omega) (by omega) (by omega) (by omega), (HD6.out.below hb).set ⟨w1.heap.size, a, none⟩ _ (show w.heap.size ≤ w1.heap.size by omega)⟩
                    have HOR := Lib.hid hor
                    clear hl ho hx hV hZ hA hB hc hxa hq hor
                    go_wp2_with fail
                    go_region
                    all_goals
                      go_wp2_with fail
                      rw [HOR.out]
                      go_roundw
                      case rel => exact ⟨b + 1, by omega, by go_num, (HN.out w5 (Below.refl _ _)).1.below (Below.refl _ _).drew, (HN.out w5 (Below.refl _ _)).2.below (Below.refl _ _).drew⟩
                      case measure => simp [intOf]; omega
                  · go_wp2_with fail
                    go_roundw
                    case rel => exact ⟨b + 1, by omega, by go_num, HI6.out.mono (by omega), HD6.out⟩
                    case measure => simp [intOf]; omega
                · have hab' : ¬ ((a : Int) < (b : Int)) := by omega
                  have HI2 := Lib.hid hI
                  have HD2 := Lib.hid hd
                  clear hI hd
                  go_wp2_with fail
                  go_quiet (fail)
                  go_wp2_with fail
                  have HI3 := Lib.hid (HI2.out.drawnN (k := nq) (c' := L + 4 + 4 * k + a * (2 * k) + 2 * (b + 1)) (by omega))
                  have HD3 := Lib.hid (HD2.out.below (Joins.below_draws wr.heap.size wr nq))
                  go_roundw
                  case rel => exact ⟨b + 1, by omega, by go_num, HI3.out, HD3.out⟩
                  case measure => simp [intOf]; omega
              · have hk1 : (0 : Int) < kd := by omega
                obtain ⟨xs0, hl0, ho0, hx0, hV0, hZ0, hA0, hB0, hc0⟩ := hI.ex
                obtain ⟨g1, o1, e1, hg1, hcr⟩ := hB0.rd.cell a (by have := HL2.out; omega)
                obtain ⟨g2, o2, e2, hg2, hcl⟩ := hA0.rd.cell b (by have := HL1.out; omega)
                have E1 := Lib.hid e1
                have E2 := Lib.hid e2
                subst e1 e2
                have a9 : (a : Int) < (rs.length : Int) := by have := HL2.out; omega
                have b9 : (b : Int) < (ls.length : Int) := by have := HL1.out; omega
                have HI2 := Lib.hid hI
                have HD2 := Lib.hid hd
                clear hI hd ho0 hx0 hV0 hZ0 hA0 hB0 hc0 hl0
                cases hlt9 : decide (nth rs a < nth ls b)
                · go_wp2_with fail
                  go_quiet (fail)
                  go_wp2_with fail
                  have HI3 := Lib.hid (HI2.out.drawnN (k := nq) (c' := L + 4 + 4 * k + a * (2 * k) + 2 * (b + 1)) (by omega))
                  have HD3 := Lib.hid (HD2.out.below (Joins.below_draws wr.heap.size wr nq))
                  go_roundw
                  case rel => exact ⟨b + 1, by omega, by go_num, HI3.out, HD3.out⟩
                  case measure => simp [intOf]; omega
                · go_wp2_with fail
                  go_quiet (fail)
                  obtain ⟨xs, hl, ho, hx, hV, hZ, hA, hB, hc⟩ := HI2.out.ex
                  have ⟨ci, fi⟩ := ho.at' hl.symm (i := a) (by omega)
                  have hxa := hx a hal
                  obtain ⟨q, hq⟩ : ∃ q : Nat, nth xs a = (q : Int) := ⟨(nth xs a).toNat, by omega⟩
                  rw [hq] at ci hxa
                  have hq10 : q < 2 ^ 10 := by omega
                  have hor := or_bit (b := q) (k := b) (by omega) (by omega)
                  have hqb : q ||| 2 ^ b < 1024 := by
                    have := or_lt (a := q) (b := 2 ^ b) hq10 (two_lt (show b < 10 by omega)); omega
                  have ⟨⟨zV, cV, dV⟩, fV, gV⟩ := hV
                  have HN : Hid (∀ W', Below wr.heap.size wr W' → OrdInv (W'.setCell ⟨w1.heap.size, a, none⟩ (.int .i64 ((q ||| 2 ^ b : Nat) : Int))) w.heap.size w1.heap.size w2.heap.size w3.heap.size p (L + 4 + 4 * k + a * (2 * k) + 2 * (b + 1)) k (.slice (some ⟨g2, o2, none⟩) ls.length cl) (.slice (some ⟨g1, o1, none⟩) rs.length cr) ls rs ∧ Drawn w (W'.setCell ⟨w1.heap.size, a, none⟩ (.int .i64 ((q ||| 2 ^ b : Nat) : Int))) p) := fun W' hb =>
                    ⟨OrdInv.put hl ho hx hV hZ hA hB hc hb hal _ hqb (by omega) (by omega) (by omega) (by omega) (by omega), (HD2.out.below hb).set ⟨w1.heap.size, a, none⟩ _ (show w.heap.size ≤ w1.heap.size by omega)⟩
                  have HOR := Lib.hid hor
                  clear hl ho hx hV hZ hA hB hc hxa hq hor
                  go_wp2_with fail
                  go_region
                  all_goals
                    go_wp2_with fail
                    rw [HOR.out]
                    go_roundw
                    case rel => exact ⟨b + 1, by omega, by go_num, (HN.out _ (by first | exact Joins.below_draws _ _ _ | exact (Joins.below_draws _ _ _).trans ((Joins.below_draws _ _ _).mono (by simp)))).1, (HN.out _ (by first | exact Joins.below_draws _ _ _ | exact (Joins.below_draws _ _ _).trans ((Joins.below_draws _ _ _).mono (by simp)))).2⟩
                    case measure => simp [intOf]; omega
            · obtain rfl : b = k := by omega
              have HI2 := Lib.hid hI
              have HD2 := Lib.hid hd
              clear hI hd
              go_wp2_with fail
              go_roundw
              case rel => exact ⟨a + 1, by omega, by go_num, HI2.out.mono (by rw [Nat.add_mul]; omega), HD2.out⟩
              case measure => simp [intOf]; omega
        · obtain rfl : a = k := by omega
          have hkk : a * (2 * a) ≤ 200 := Nat.le_trans (Nat.mul_le_mul (show a ≤ 10 by omega) (show 2 * a ≤ 20 by omega)) (by omega)
          obtain ⟨xs, hl, ho, hx, hV, hZ, hA, hB, hc⟩ := hI.ex
          have HL := Lib.hid hl
          have HO := Lib.hid ho
          have HX := Lib.hid hx
          have HZ := Lib.hid hZ
          have HC := Lib.hid hc
          have HD := Lib.hid hd
          have ⟨⟨zV, cV, dV⟩, fV, gV⟩ := hV
          have ⟨⟨zZ, cZ, dZ⟩, fZ, gZ⟩ := hZ
          obtain ⟨W6, hW6⟩ : ∃ x : World, x = wr := ⟨_, rfl⟩
          subst hW6
          clear hI hd hl ho hx hV hZ hA hB hc
          by_cases hk0 : kd = 0
          · subst hk0
            go_wp2_with fail
            have hnb : -9223372036854775808 ≤ (a : Int) ∧ (a : Int) ≤ 9223372036854775807 := by omega
            have HCL := Lib.hid (sCloseRelation_any (a : Int) (some ⟨w1.heap.size, 0, none⟩) xs a W6 hnb HO.out.rd)
            unfold GotO at HCL
            have HCN : Hid (cloN (a : Int) xs = ((cloL (a : Int) xs).length : Int)) := cloN_len (a : Int) xs
            have HCS : Hid (∀ k, k < (cloL (a : Int) xs).length → 0 ≤ nth (cloL (a : Int) xs) k ∧ nth (cloL (a : Int) xs) k < 1024) := cloL_small (fun k hk => HX.out k (by rw [HL.out] at hk; exact hk))
            have HCM : Hid ((cloL (a : Int) xs).length ≤ m) := Nat.le_trans (cloL_le (a : Int) xs) (by rw [HL.out]; exact hn)
            rw [HL.out, HCN.out] at HCL
            obtain ⟨ys, hys⟩ : ∃ ys, ys = cloL (a : Int) xs := ⟨_, rfl⟩
            rw [← hys] at HCL HCS HCM
            generalize relB (a : Int) xs = rb at HCL
            clear hys HCN
            refine HCL.out.mono ?_
            rintro e w7 ⟨a7, c7, rfl, ho7, hb7⟩
            have hs7 := hb7.size
            have hZ7 := HZ.out.below hb7
            have hC7 := HC.out.below hb7
            have hD7 := HD.out.below hb7
            have ⟨⟨zZ7, cZ7, dZ7⟩, fZ7, gZ7⟩ := hZ7
            have HO7 := Lib.hid ho7
            have HZ7 := Lib.hid hZ7
            have HC7 := Lib.hid hC7
            have HD7 := Lib.hid hD7
            clear hb7 ho7 hZ7 hC7 hD7 HCL
            go_wp2_with fail
            have R3 := (HZ7.out.set (.int .i64 (ys.length : Int)) (.slice a7 ys.length c7)).alloc (.cells #[.int .i64 (ys.length : Int), .slice a7 ys.length c7] 28)
            refine bodyPost_ret (v := .agg #[.int .i64 (ys.length : Int), .slice a7 ys.length c7]) (by have ⟨⟨_, q1, q2⟩, _, _⟩ := R3; simp [results, Try.results160, go_sem, q1, q2]) rfl ?_
            have hO9 := (((HO7.out.setBelow (p := ⟨w.heap.size, 0, none⟩) (show w.heap.size < W6.heap.size by omega) (.int .i64 (ys.length : Int))).setBelow (p := ⟨w.heap.size, 1, none⟩) (show w.heap.size < W6.heap.size by omega) (.slice a7 ys.length c7)).alloc (.cells #[.int .i64 (ys.length : Int), .slice a7 ys.length c7] 28)).mono (show w.heap.size ≤ W6.heap.size by omega)
            have hC9 := ((((HC7.out.set ⟨w.heap.size, 0, none⟩ (.int .i64 (ys.length : Int)) (show p < w.heap.size by omega)).set ⟨w.heap.size, 1, none⟩ (.slice a7 ys.length c7) (show p < w.heap.size by omega)).alloc (.cells #[.int .i64 (ys.length : Int), .slice a7 ys.length c7] 28)).mono (show L + 4 + 4 * a + a * (2 * a) ≤ L + 400 by omega))
            have hD9 := ((HD7.out.set ⟨w.heap.size, 0, none⟩ (.int .i64 (ys.length : Int)) (Nat.le_refl _)).set ⟨w.heap.size, 1, none⟩ (.slice a7 ys.length c7) (Nat.le_refl _)).alloc (.cells #[.int .i64 (ys.length : Int), .slice a7 ys.length c7] 28)
            exact ⟨a7, c7, ys, rfl, hO9, HCM.out, HCS.out, hC9, hD9⟩
          · have hk1 : (0 : Int) < kd := by omega
            go_wp2_with fail
            have R3 := HZ.out.set (.int .i64 (a : Int)) (.slice (some ⟨w1.heap.size, 0, none⟩) a a)
            refine bodyPost_ret (v := .agg #[.int .i64 (a : Int), .slice (some ⟨w1.heap.size, 0, none⟩) a a]) (by have ⟨⟨_, q1, q2⟩, _, _⟩ := R3; simp [results, Try.results160, go_sem, q1, q2]) rfl ?_
            have hO9 := ((HO.out.setBelow (p := ⟨w.heap.size, 0, none⟩) (show w.heap.size < w1.heap.size by omega) (.int .i64 (a : Int))).setBelow (p := ⟨w.heap.size, 1, none⟩) (show w.heap.size < w1.heap.size by omega) (.slice (some ⟨w1.heap.size, 0, none⟩) a a)).mono (show w.heap.size ≤ w1.heap.size by omega)
            have hC9 := ((HC.out.set ⟨w.heap.size, 0, none⟩ (.int .i64 (a : Int)) (show p < w.heap.size by omega)).set ⟨w.heap.size, 1, none⟩ (.slice (some ⟨w1.heap.size, 0, none⟩) a a) (show p < w.heap.size by omega)).mono (show L + 4 + 4 * a + a * (2 * a) ≤ L + 400 by omega)
            have hD9 := (HD.out.set ⟨w.heap.size, 0, none⟩ (.int .i64 (a : Int)) (Nat.le_refl _)).set ⟨w.heap.size, 1, none⟩ (.slice (some ⟨w1.heap.size, 0, none⟩) a a) (Nat.le_refl _)
            exact ⟨some ⟨w1.heap.size, 0, none⟩, a, xs, by rw [HL.out], by rw [HL.out]; exact hO9, by rw [HL.out]; exact hn, fun k hk => HX.out k (by rw [HL.out] at hk; exact hk), hC9, hD9⟩

/-- four numbers that were written out -/
theorem rd_lit4 (w : World) (x0 x1 x2 x3 : Int) (t : TypeId) : Rd (w.alloc (.cells #[.int .i64 x0, .int .i64 x1, .int .i64 x2, .int .i64 x3] t)) (some ⟨w.heap.size, 0, none⟩) [x0, x1, x2, x3] :=
  ⟨by simp, fun k hk => ⟨w.heap.size, 0, rfl, by simp, by
    have : k = 0 ∨ k = 1 ∨ k = 2 ∨ k = 3 := by simp at hk; omega
    rcases this with rfl | rfl | rfl | rfl <;> simp [nth]⟩⟩
theorem lit4_small {n k : Nat} (hn : n ≤ 10) (hk : k < 4) : -1 ≤ nth [-1, 0, 1, IntKind.i64.wrap (2 ^ n)] k ∧ nth [-1, 0, 1, IntKind.i64.wrap (2 ^ n)] k ≤ 1024 := by
  have h1 : (2 : Int) ^ n ≤ 1024 ∧ 0 ≤ (2 : Int) ^ n := by
    have h := Nat.pow_le_pow_right (show 0 < 2 by omega) hn
    have e : ((2 ^ n : Nat) : Int) = (2 : Int) ^ n := by simp
    rw [← e]
    have h9 : (2 : Nat) ^ 10 = 1024 := by decide
    rw [h9] at h
    generalize 2 ^ n = z at h
    omega
  have h2 : IntKind.i64.wrap (2 ^ n) = 2 ^ n := wrap64_small _ (by omega) (by omega)
  rw [h2]
  have : k = 0 ∨ k = 1 ∨ k = 2 ∨ k = 3 := by omega
  rcases this with rfl | rfl | rfl | rfl <;> simp [nth] <;> omega
/-- an order, or something near one, that was drawn -/
def AnyO (w : World) (p L : Nat) (e : Ending) (w' : World) : Prop :=
  ∃ (n : Int) (a : Option Addr) (cap : Nat) (xs : List Int), e = .returned (.agg #[.int .i64 n, .slice a xs.length cap]) ∧ OwnI w' w.heap.size (.slice a xs.length cap) xs ∧ xs.length ≤ 10 ∧ -1 ≤ n ∧ n ≤ 11 ∧ (∀ k, k < xs.length → -1 ≤ nth xs k ∧ nth xs k ≤ 1024) ∧ Cur w' p L ∧ Drawn w w' p
theorem any_end {w W : World} {p L L' : Nat} {n : Int} {a : Option Addr} {c : Nat} {xs : List Int} (ho : OwnI W (w.heap.size + 1) (.slice a xs.length c) xs) (hl : xs.length ≤ 10) (h0 : -1 ≤ n) (h1 : n ≤ 11) (hx : ∀ k, k < xs.length → -1 ≤ nth xs k ∧ nth xs k ≤ 1024)
    (hc : Cur W p L) (hL : L ≤ L') (hp : p < w.heap.size) (hd : Drawn w W p) :
    AnyO w p L' (.returned (.agg #[.int .i64 n, .slice a xs.length c])) ((W.setCell ⟨w.heap.size, 0, none⟩ (.int .i64 n)).setCell ⟨w.heap.size, 1, none⟩ (.slice a xs.length c)) :=
  ⟨n, a, c, xs, rfl, ((ho.setBelow (p := ⟨w.heap.size, 0, none⟩) (show w.heap.size < w.heap.size + 1 by omega) _).setBelow (p := ⟨w.heap.size, 1, none⟩) (show w.heap.size < w.heap.size + 1 by omega) _).mono (by omega), hl, h0, h1, hx,
    ((hc.set ⟨w.heap.size, 0, none⟩ _ hp).set ⟨w.heap.size, 1, none⟩ _ hp).mono hL, (hd.set ⟨w.heap.size, 0, none⟩ _ (Nat.le_refl _)).set ⟨w.heap.size, 1, none⟩ _ (Nat.le_refl _)⟩
set_option maxRecDepth 100000 in
set_option maxHeartbeats 2000000 in
theorem anyOrder_any (p L m : Nat) (w : World) (h : Cur w p L) (hL : L ≤ 600000000) (hm : m ≤ 10) :
    Calls Try.prog 122 #[.pointer (some ⟨p, 0, none⟩), .int .i64 (m : Int)] w (AnyO w p (L + 1000)) := by
  have hpw := h.lt
  have ha : Below w.heap.size w (w.alloc (.cells #[.int .i64 0, .slice none 0 0] 28)) := (by repeat (first | exact Below.refl _ _ | assumption | refine Below.alloc ?_ (by first | exact Nat.le_refl _ | (simp only [World.size_alloc, World.size_setCell, World.size_drew]; omega) | omega) _ | refine Below.setCell ?_ (by first | exact Nat.le_refl _ | (simp only [World.size_alloc, World.size_setCell, World.size_drew]; omega) | omega) _ | refine Below.drew ?_))
  have H := Lib.hid (h.below ha)
  have HR := Lib.hid (Var2.new w (.int .i64 0) (.slice none 0 0) 28)
  clear h
  unfold AnyO
  go_enter Try.func122, Try.ntmps122
  go_wp2_with fail
  refine (order_any p L m _ H.out (by omega) hm).mono ?_
  rintro e w1 ⟨a1, c1, xs, rfl, ho1, hl1, hx1, hc1, hd1⟩
  have hs1 : w.heap.size + 1 ≤ w1.heap.size := by have := hd1.size; simpa using this
  have ba1 : Below w1.heap.size w1 (w1.alloc (.cells #[.int .i64 (xs.length : Int), .slice a1 xs.length c1] 28)) := (by repeat (first | exact Below.refl _ _ | assumption | refine Below.alloc ?_ (by first | exact Nat.le_refl _ | (simp only [World.size_alloc, World.size_setCell, World.size_drew]; omega) | omega) _ | refine Below.setCell ?_ (by first | exact Nat.le_refl _ | (simp only [World.size_alloc, World.size_setCell, World.size_drew]; omega) | omega) _ | refine Below.drew ?_))
  have hc1' := hc1.below ba1
  have HD1 := Lib.hid (hd1.of_alloc.below ba1)
  have HR1 := Lib.hid ((HR.out.drawn hd1 (by omega)).below ba1)
  have HO1 := Lib.hid ((ho1.mono (B' := w.heap.size + 1) (by simp)).below ba1 (Nat.le_refl _))
  have HB1 := Lib.hid (Var2.new w1 (.int .i64 (xs.length : Int)) (.slice a1 xs.length c1) 28)
  have HX1 := Lib.hid hx1
  have HC1 := Lib.hid hc1'
  have hgne : (Value.slice a1 xs.length c1).ownBlock = none ∨ (Value.slice a1 xs.length c1).ownBlock ≠ some w1.heap.size := by
    cases e : (Value.slice a1 xs.length c1).ownBlock with
    | none => exact .inl rfl
    | some g => exact .inr (by have := (ho1.lt g e).2; simp; omega)
  clear hc1 hc1' hd1 ho1 hx1 ba1 H HR
  go_wp2_with fail
  refine (pick_any p (L + 400) 14 _ HC1.out (by omega) (by omega)).mono ?_
  rintro e w2 ⟨r, rfl, hr0, hr1, hc2, hd2⟩
  have hs2 : w1.heap.size + 1 ≤ w2.heap.size := by have := hd2.size; simpa using this
  have HC2 := Lib.hid hc2
  have HD2 := Lib.hid (HD1.out.trans hd2)
  have HR2 := Lib.hid (HR1.out.drawn hd2 (by omega))
  have HO2 := Lib.hid (HO1.out.drawn hd2 (by omega))
  have HB2 := Lib.hid (HB1.out.drawn hd2 (by omega))
  have ⟨⟨zR, cR, dR⟩, fR, gR⟩ := HR2.out
  have ⟨⟨zB, cB, dB⟩, fB, gB⟩ := HB2.out
  clear hc2 hd2 HC1 HD1 HR1 HO1 HB1
  cases e0 : (r == 0)
  · cases e1 : (r == 1)
    · cases e2 : (r == 2)
      · cases e3 : (r == 3)
        · go_wp2_with fail
          have R3 := HR2.out.set (.int .i64 (xs.length : Int)) (.slice a1 xs.length c1)
          refine bodyPost_ret (v := .agg #[.int .i64 (xs.length : Int), .slice a1 xs.length c1]) (by have ⟨⟨_, q1, q2⟩, _, _⟩ := R3; simp [results, Try.results122, go_sem, q1, q2]) rfl ?_
          exact any_end HO2.out (by omega) (by omega) (by omega) (fun k hk => by have := HX1.out k hk; omega) HC2.out (by omega) hpw HD2.out
        · go_wp2_with fail
          refine (order_any p (L + 402) 10 _ HC2.out (by omega) (by omega)).mono ?_
          rintro e w3 ⟨a3, c3, ys, rfl, ho3, hl3, hx3, hc3, hd3⟩
          have hs3 := hd3.size
          have hR3 := HR2.out.drawn hd3 (by omega)
          have hD3 := HD2.out.trans hd3
          have ⟨⟨zR3, cR3, dR3⟩, fR3, gR3⟩ := hR3
          have HO3 := Lib.hid (ho3.mono (B' := w.heap.size + 1) (by omega))
          have HX3 := Lib.hid hx3
          have HR3 := Lib.hid hR3
          have HC3 := Lib.hid hc3
          have HD3 := Lib.hid hD3
          clear ho3 hx3 hR3 hD3 hc3 hd3
          go_wp2_with fail
          have R3 := HR3.out.set (.int .i64 (ys.length : Int)) (.slice a3 ys.length c3)
          refine bodyPost_ret (v := .agg #[.int .i64 (ys.length : Int), .slice a3 ys.length c3]) (by have ⟨⟨_, q1, q2⟩, _, _⟩ := R3; simp [results, Try.results122, go_sem, q1, q2]) rfl ?_
          exact any_end HO3.out (by omega) (by omega) (by omega) (fun k hk => by have := HX3.out k hk; omega) HC3.out (by omega) hpw HD3.out
      · by_cases hl0 : 0 < xs.length
        · have hl0' : (0 : Int) < (xs.length : Int) := by omega
          obtain ⟨g, rfl⟩ : ∃ g, a1 = some ⟨g, 0, none⟩ := by
            rcases HO2.out.2 with ⟨e, h⟩ | ⟨g, c, cur, e, _⟩
            · omega
            · simp only [Value.slice.injEq] at e
              exact ⟨g, e.1⟩
          have hg1 := HO2.out.lt g rfl
          have hg2 : g ≠ w1.heap.size := by
            rcases hgne with h | h
            · cases h
            · exact fun e => h (by rw [← e]; rfl)
          go_wp2_with fail
          go_region_held3 (fun w' => w'.cell? ⟨w1.heap.size, 0, none⟩ = some (.int .i64 (xs.length : Int)) ∧ w'.cell? ⟨w1.heap.size, 1, none⟩ = some (.slice (some ⟨g, 0, none⟩) xs.length c1))
            (first | exact ⟨QB.1.2.1, QB.1.2.2⟩ | exact ⟨QA.1.2.1, QA.1.2.2⟩ | go_keep)
            (first
              | (have _g := HP1; go_at_call 76; refine (among_any p (L + 404) (some ⟨wa.heap.size, 0, none⟩) [-1, 0, 1, IntKind.i64.wrap (2 ^ xs.length)] 4 4 _ (HCA.out.alloc _) (by omega) (rd_lit4 wa (-1) 0 1 _ _) rfl (by omega) (by omega) (fun b off e => (by simp only [Option.some.injEq, Addr.mk.injEq] at e; omega))).mono ?_; rintro e wb ⟨kk, hkk, rfl, hcb, hdb⟩; have QB := (QA.alloc (.cells #[.int .i64 (-1), .int .i64 0, .int .i64 1, .int .i64 (IntKind.i64.wrap (2 ^ xs.length))] 3)).drawn hdb (by omega); have QRB := Lib.hid ((QRA.out.alloc (.cells #[.int .i64 (-1), .int .i64 0, .int .i64 1, .int .i64 (IntKind.i64.wrap (2 ^ xs.length))] 3)).drawn hdb (by omega)); have HCB := Lib.hid hcb; have HDB := Lib.hid ((HDA.out.alloc (.cells #[.int .i64 (-1), .int .i64 0, .int .i64 1, .int .i64 (IntKind.i64.wrap (2 ^ xs.length))] 3)).trans hdb); have hob := (HOA.out.alloc (.cells #[.int .i64 (-1), .int .i64 0, .int .i64 1, .int .i64 (IntKind.i64.wrap (2 ^ xs.length))] 3)).drawn hdb (by omega); have HOB := Lib.hid hob; have ⟨cib, fib⟩ := hob.at' rfl (i := qn) hqn; clear hcb hdb hob)
              | (have _g := HP2; go_at_call 76; refine (among_any p (L + 404) (some ⟨w2.heap.size, 0, none⟩) [-1, 0, 1, IntKind.i64.wrap (2 ^ xs.length)] 4 4 _ HCA.out (by omega) HP2.out rfl (by omega) (by omega) (fun b off e => (by simp only [Option.some.injEq, Addr.mk.injEq] at e; omega))).mono ?_; rintro e wb ⟨kk, hkk, rfl, hcb, hdb⟩; have QB := QA.drawn hdb (by omega); have QRB := Lib.hid (QRA.out.drawn hdb (by omega)); have HCB := Lib.hid hcb; have HDB := Lib.hid (HDA.out.trans hdb); have hob := HOA.out.drawn hdb (by omega); have HOB := Lib.hid hob; have ⟨cib, fib⟩ := hob.at' rfl (i := qn) hqn; clear hcb hdb hob)
              | (have _g := HP2; go_at_call 76; refine (among_any p (L + 404) (some ⟨w2.heap.size, 0, none⟩) [-1, 0, 1, IntKind.i64.wrap (2 ^ xs.length)] 4 4 _ (HCA.out.below (Joins.below_draws _ _ _)) (by omega) (HP2.out.below (Joins.below_draws _ _ _)) rfl (by omega) (by omega) (fun b off e => (by simp only [Option.some.injEq, Addr.mk.injEq] at e; omega))).mono ?_; rintro e wb ⟨kk, hkk, rfl, hcb, hdb⟩; have QB := (QA.below (Joins.below_draws _ _ _)).drawn hdb (by omega); have QRB := Lib.hid ((QRA.out.below (Joins.below_draws _ _ _)).drawn hdb (by omega)); have HCB := Lib.hid hcb; have HDB := Lib.hid ((HDA.out.below (Joins.below_draws _ _ _)).trans hdb); have hob := (HOA.out.below (Joins.below_draws _ _ _) (Nat.le_refl _)).drawn hdb (by omega); have HOB := Lib.hid hob; have ⟨cib, fib⟩ := hob.at' rfl (i := qn) hqn; clear hcb hdb hob)
              | (go_at_call 75; refine (pick_any p (L + 402) (xs.length : Int) _ (HC2.out.below (Joins.below_draws _ _ _)) (by omega) (by omega)).mono ?_; rintro e wa ⟨q, rfl, hq0, hq1, hca, hda⟩; obtain ⟨qn, rfl⟩ := Int.eq_ofNat_of_zero_le hq0; have hqn : qn < xs.length := (by omega); have hqi : (qn : Int) < (xs.length : Int) := (by omega); have hsa : w2.heap.size ≤ wa.heap.size := (by have := hda.size; simp at this; omega); have HDA := Lib.hid ((HD2.out.below (Joins.below_draws _ _ _)).trans hda); have HOA := Lib.hid ((HO2.out.below (Joins.below_draws _ _ _) (Nat.le_refl _)).drawn hda (by omega)); have HCA := Lib.hid hca; have QA := (HB2.out.below (Joins.below_draws _ _ _)).drawn hda (by omega); have QRA := Lib.hid ((HR2.out.below (Joins.below_draws _ _ _)).drawn hda (by omega)); have HP1 := Lib.hid hsa; clear hca hda hq0 hq1)
              | (go_at_call 75; refine (pick_any p (L + 402) (xs.length : Int) _ (HC2.out.below ((Below.refl w2.heap.size w2).alloc (Nat.le_refl _) (.cells #[.int .i64 (-1), .int .i64 0, .int .i64 1, .int .i64 (IntKind.i64.wrap (2 ^ xs.length))] 3))) (by omega) (by omega)).mono ?_; rintro e wa ⟨q, rfl, hq0, hq1, hca, hda⟩; obtain ⟨qn, rfl⟩ := Int.eq_ofNat_of_zero_le hq0; have hqn : qn < xs.length := (by omega); have hqi : (qn : Int) < (xs.length : Int) := (by omega); have hsa : w2.heap.size ≤ wa.heap.size := (by have := hda.size; simp at this; omega); have HDA := Lib.hid ((HD2.out.below ((Below.refl w2.heap.size w2).alloc (Nat.le_refl _) (.cells #[.int .i64 (-1), .int .i64 0, .int .i64 1, .int .i64 (IntKind.i64.wrap (2 ^ xs.length))] 3))).trans hda); have HOA := Lib.hid ((HO2.out.below ((Below.refl w2.heap.size w2).alloc (Nat.le_refl _) (.cells #[.int .i64 (-1), .int .i64 0, .int .i64 1, .int .i64 (IntKind.i64.wrap (2 ^ xs.length))] 3)) (Nat.le_refl _)).drawn hda (by omega)); have HCA := Lib.hid hca; have QA := (HB2.out.below ((Below.refl w2.heap.size w2).alloc (Nat.le_refl _) (.cells #[.int .i64 (-1), .int .i64 0, .int .i64 1, .int .i64 (IntKind.i64.wrap (2 ^ xs.length))] 3))).drawn hda (by omega); have QRA := Lib.hid ((HR2.out.below ((Below.refl w2.heap.size w2).alloc (Nat.le_refl _) (.cells #[.int .i64 (-1), .int .i64 0, .int .i64 1, .int .i64 (IntKind.i64.wrap (2 ^ xs.length))] 3))).drawn hda (by omega)); have HP2 := Lib.hid (((rd_lit4 w2 (-1) 0 1 (IntKind.i64.wrap (2 ^ xs.length)) 3)).drawn hda (fun b off e => (by simp only [Option.some.injEq, Addr.mk.injEq] at e; omega))); clear hca hda hq0 hq1)
              | (go_at_call 75; refine (pick_any p (L + 402) (xs.length : Int) _ (HC2.out.below (((Below.refl w2.heap.size w2).alloc (Nat.le_refl _) (.cells #[.int .i64 (-1), .int .i64 0, .int .i64 1, .int .i64 (IntKind.i64.wrap (2 ^ xs.length))] 3)).trans (Joins.below_draws _ _ _))) (by omega) (by omega)).mono ?_; rintro e wa ⟨q, rfl, hq0, hq1, hca, hda⟩; obtain ⟨qn, rfl⟩ := Int.eq_ofNat_of_zero_le hq0; have hqn : qn < xs.length := (by omega); have hqi : (qn : Int) < (xs.length : Int) := (by omega); have hsa : w2.heap.size ≤ wa.heap.size := (by have := hda.size; simp at this; omega); have HDA := Lib.hid ((HD2.out.below (((Below.refl w2.heap.size w2).alloc (Nat.le_refl _) (.cells #[.int .i64 (-1), .int .i64 0, .int .i64 1, .int .i64 (IntKind.i64.wrap (2 ^ xs.length))] 3)).trans (Joins.below_draws _ _ _))).trans hda); have HOA := Lib.hid ((HO2.out.below (((Below.refl w2.heap.size w2).alloc (Nat.le_refl _) (.cells #[.int .i64 (-1), .int .i64 0, .int .i64 1, .int .i64 (IntKind.i64.wrap (2 ^ xs.length))] 3)).trans (Joins.below_draws _ _ _)) (Nat.le_refl _)).drawn hda (by omega)); have HCA := Lib.hid hca; have QA := (HB2.out.below (((Below.refl w2.heap.size w2).alloc (Nat.le_refl _) (.cells #[.int .i64 (-1), .int .i64 0, .int .i64 1, .int .i64 (IntKind.i64.wrap (2 ^ xs.length))] 3)).trans (Joins.below_draws _ _ _))).drawn hda (by omega); have QRA := Lib.hid ((HR2.out.below (((Below.refl w2.heap.size w2).alloc (Nat.le_refl _) (.cells #[.int .i64 (-1), .int .i64 0, .int .i64 1, .int .i64 (IntKind.i64.wrap (2 ^ xs.length))] 3)).trans (Joins.below_draws _ _ _))).drawn hda (by omega)); have HP2 := Lib.hid (((rd_lit4 w2 (-1) 0 1 (IntKind.i64.wrap (2 ^ xs.length)) 3).below (Joins.below_draws _ _ _)).drawn hda (fun b off e => (by simp only [Option.some.injEq, Addr.mk.injEq] at e; omega))); clear hca hda hq0 hq1))
          all_goals
            have hz0 : -1 ≤ nth [-1, 0, 1, IntKind.i64.wrap (2 ^ xs.length)] kk ∧ nth [-1, 0, 1, IntKind.i64.wrap (2 ^ xs.length)] kk ≤ 1024 := lit4_small (show xs.length ≤ 10 by omega) hkk
            have hsb := HDB.out.size
            generalize nth [-1, 0, 1, IntKind.i64.wrap (2 ^ xs.length)] kk = z at hz0
            have hput := HOB.out.put rfl qn z
            have HP := Lib.hid hput
            have hQ : Hid (Var2 (wb.setCell ⟨g, qn, none⟩ (.int .i64 z)) w.heap.size (.int .i64 0) (.slice none 0 0)) := QRB.out.other (p := ⟨g, qn, none⟩) _ (show w.heap.size ≠ g by omega)
            have hQb := QB.other (p := ⟨g, qn, none⟩) (.int .i64 z) (show w1.heap.size ≠ g from fun e => hg2 e.symm)
            have ⟨⟨zR3, cR3, dR3⟩, fR3, gR3⟩ := hQ.out
            have ⟨⟨zB3, cB3, dB3⟩, fB3, gB3⟩ := hQb
            have HL9 : Hid ((xs.set qn z).length = xs.length) := by simp [Hid]
            have HX9 : Hid (∀ k, k < (xs.set qn z).length → -1 ≤ nth (xs.set qn z) k ∧ nth (xs.set qn z) k ≤ 1024) := fun j hj => by
              rw [nth_set hqn]
              split
              · exact hz0
              · have := HX1.out j (by simpa using hj); omega
            clear hput
            go_wp2_with fail
            have R3 := hQ.out.set (.int .i64 (xs.length : Int)) (.slice (some ⟨g, 0, none⟩) xs.length c1)
            refine bodyPost_ret (v := .agg #[.int .i64 (xs.length : Int), .slice (some ⟨g, 0, none⟩) xs.length c1]) (by have ⟨⟨_, q1, q2⟩, _, _⟩ := R3; simp [results, Try.results122, go_sem, q1, q2]) rfl ?_
            have h9 := any_end (p := p) (L := L + 406) (L' := L + 1000) (n := (xs.length : Int)) (W := wb.setCell ⟨g, qn, none⟩ (.int .i64 z)) (a := some ⟨g, 0, none⟩) (c := c1) (xs := xs.set qn z) (w := w) (by rw [HL9.out]; exact HP.out.1) (by rw [HL9.out]; omega) (by omega) (by omega) HX9.out (HCB.out.set ⟨g, qn, none⟩ _ (show p < g by omega)) (by omega) hpw (HDB.out.set ⟨g, qn, none⟩ _ (show w.heap.size ≤ g by omega))
            rw [HL9.out] at h9
            exact h9
        · have hl0' : ¬ ((0 : Int) < (xs.length : Int)) := by omega
          go_wp2_with fail
          have R3 := HR2.out.set (.int .i64 (xs.length : Int)) (.slice a1 xs.length c1)
          refine bodyPost_ret (v := .agg #[.int .i64 (xs.length : Int), .slice a1 xs.length c1]) (by have ⟨⟨_, q1, q2⟩, _, _⟩ := R3; simp [results, Try.results122, go_sem, q1, q2]) rfl ?_
          exact any_end HO2.out (by omega) (by omega) (by omega) (fun k hk => by have := HX1.out k hk; omega) HC2.out (by omega) hpw HD2.out
    · have ba2 : Below w2.heap.size w2 (w2.alloc (.cells #[.int .i64 (-1), .int .i64 0, .int .i64 10, .int .i64 11] 3)) := (by repeat (first | exact Below.refl _ _ | assumption | refine Below.alloc ?_ (by first | exact Nat.le_refl _ | (simp only [World.size_alloc, World.size_setCell, World.size_drew]; omega) | omega) _ | refine Below.setCell ?_ (by first | exact Nat.le_refl _ | (simp only [World.size_alloc, World.size_setCell, World.size_drew]; omega) | omega) _ | refine Below.drew ?_))
      go_wp2_with fail
      refine (among_any p (L + 402) (some ⟨w2.heap.size, 0, none⟩) [-1, 0, 10, 11] 4 4 _ (HC2.out.below ba2) (by omega) (rd_lit4 w2 (-1) 0 10 11 _) rfl (by omega) (by omega) (fun b off e => by simp only [Option.some.injEq, Addr.mk.injEq] at e; omega)).mono ?_
      rintro e w3 ⟨k, hk, rfl, hc3, hd3⟩
      have hn0 : -1 ≤ nth [-1, 0, 10, 11] k ∧ nth [-1, 0, 10, 11] k ≤ 11 := by
        have : k = 0 ∨ k = 1 ∨ k = 2 ∨ k = 3 := by omega
        rcases this with rfl | rfl | rfl | rfl <;> simp [nth]
      generalize nth [-1, 0, 10, 11] k = z at hn0
      have hs3 : w2.heap.size + 1 ≤ w3.heap.size := by have := hd3.size; simpa using this
      have hR3 := (HR2.out.below ba2).drawn hd3 (by omega)
      have hB3 := (HB2.out.below ba2).drawn hd3 (by omega)
      have hO3 := (HO2.out.below ba2 (Nat.le_refl _)).drawn hd3 (by omega)
      have hD3 := (HD2.out.below ba2).trans hd3
      have ⟨⟨zR3, cR3, dR3⟩, fR3, gR3⟩ := hR3
      have ⟨⟨zB3, cB3, dB3⟩, fB3, gB3⟩ := hB3
      have HO3 := Lib.hid hO3
      have HR3 := Lib.hid hR3
      have HB3 := Lib.hid hB3
      have HC3 := Lib.hid hc3
      have HD3 := Lib.hid hD3
      clear hO3 hR3 hB3 hD3 hc3 hd3
      have HRb := Lib.hid (HR3.out.other (p := ⟨w1.heap.size, 0, none⟩) (.int .i64 z) (show w.heap.size ≠ w1.heap.size by omega))
      have HOb := Lib.hid (HO3.out.kept (grown_set w3 ⟨w1.heap.size, 0, none⟩ (.int .i64 z)) hgne)
      go_wp2_with fail
      have R3 := HRb.out.set (.int .i64 z) (.slice a1 xs.length c1)
      refine bodyPost_ret (v := .agg #[.int .i64 z, .slice a1 xs.length c1]) (by have ⟨⟨_, q1, q2⟩, _, _⟩ := R3; simp [results, Try.results122, go_sem, q1, q2]) rfl ?_
      exact any_end HOb.out (by omega) (by omega) (by omega) (fun k hk => by have := HX1.out k hk; omega) (HC3.out.set ⟨w1.heap.size, 0, none⟩ _ (show p < w1.heap.size by omega)) (by omega) hpw (HD3.out.set ⟨w1.heap.size, 0, none⟩ _ (show w.heap.size ≤ w1.heap.size by omega))
  · go_wp2_with fail
    refine (relation_any p (L + 402) m _ HC2.out (by omega) (by omega)).mono ?_
    rintro e w3 ⟨a3, c3, ys, rfl, ho3, hl3, hx3, hc3, hd3⟩
    have hs3 := hd3.size
    have hR3 := HR2.out.drawn hd3 (by omega)
    have hD3 := HD2.out.trans hd3
    have ⟨⟨zR3, cR3, dR3⟩, fR3, gR3⟩ := hR3
    have HO3 := Lib.hid (ho3.mono (B' := w.heap.size + 1) (by omega))
    have HX3 := Lib.hid hx3
    have HR3 := Lib.hid hR3
    have HC3 := Lib.hid hc3
    have HD3 := Lib.hid hD3
    clear ho3 hx3 hR3 hD3 hc3 hd3
    go_wp2_with fail
    have R3 := HR3.out.set (.int .i64 (ys.length : Int)) (.slice a3 ys.length c3)
    refine bodyPost_ret (v := .agg #[.int .i64 (ys.length : Int), .slice a3 ys.length c3]) (by have ⟨⟨_, q1, q2⟩, _, _⟩ := R3; simp [results, Try.results122, go_sem, q1, q2]) rfl ?_
    exact any_end HO3.out (by omega) (by omega) (by omega) (fun k hk => by have := HX3.out k hk; omega) HC3.out (by omega) hpw HD3.out

/-- an order that a law draws -/
def DrawnO (w : World) (e : Ending) (w' : World) : Prop :=
  ∃ (n : Int) (a : Option Addr) (cap : Nat) (xs : List Int), e = .returned (.agg #[.int .i64 n, .slice a xs.length cap]) ∧ OwnI w' w.heap.size (.slice a xs.length cap) xs ∧ xs.length ≤ 10 ∧ -1 ≤ n ∧ n ≤ 11 ∧ (∀ k, k < xs.length → -1 ≤ nth xs k ∧ nth xs k ≤ 1024) ∧ Below w.heap.size w w'
theorem cur_new {w : World} {a : Option Addr} {n cap : Nat} {t : TypeId} (hR : RdB w a n) (hn : n ≤ 1048576) : Cur (w.alloc (.cells #[.slice a n cap, .int .i64 0, .int .u64 0] t)) w.heap.size 0 :=
  ⟨a, n, cap, 0, 0, Var3.new w _ _ _ t, by omega, by omega, hn, hR.below ((Below.refl _ _).alloc (Nat.le_refl _) _), fun h0 b off e => by
    obtain ⟨b', off', e', hl, _⟩ := hR.cell 0 h0
    rw [e] at e'
    simp only [Option.some.injEq, Addr.mk.injEq] at e'
    omega⟩

/-- a matrix and a number that a law draws -/
def DrawnM (w : World) (e : Ending) (w' : World) : Prop :=
  ∃ (a : Option Addr) (c : Nat) (xss : List (List Int)), e = .returned (.agg #[.slice a xss.length c]) ∧ RdC w' a xss ∧ xss.length + totS xss xss.length ≤ 1048576 ∧ Below w.heap.size w w'
def DrawnMi (w : World) (e : Ending) (w' : World) : Prop :=
  ∃ (a : Option Addr) (c : Nat) (xss : List (List Int)) (x : Int), e = .returned (.tuple #[.agg #[.slice a xss.length c], .int .i64 x]) ∧ RdC w' a xss ∧ xss.length + totS xss xss.length ≤ 1048576 ∧ (-1 ≤ x ∧ x ≤ 1000) ∧ Below w.heap.size w w'
set_option maxRecDepth 100000 in
theorem drGrow_any (a : Option Addr) (n cap : Nat) (w : World) (hR : RdB w a n) (hn : n ≤ 1048576) :
    Calls Try.prog 39 #[.slice a n cap] w (DrawnMi w) := by
  have ba : Below w.heap.size w (w.alloc (.cells #[.slice none 0 0] 60)) := (by repeat (first | exact Below.refl _ _ | assumption | refine Below.alloc ?_ (by first | exact Nat.le_refl _ | (simp only [World.size_alloc, World.size_setCell, World.size_drew]; omega) | omega) _ | refine Below.setCell ?_ (by first | exact Nat.le_refl _ | (simp only [World.size_alloc, World.size_setCell, World.size_drew]; omega) | omega) _ | refine Below.drew ?_))
  go_enter Try.func39, Try.ntmps39
  go_wp2_with fail
  have hcur := cur_new (w := w.alloc (.cells #[.slice none 0 0] 60)) (cap := cap) (t := 83) (hR.below ba) hn
  rw [World.size_alloc] at hcur
  refine (matrix_any (w.heap.size + 1) 0 8 _ hcur (by omega) (by omega)).mono ?_
  rintro e w1 ⟨a1, c1, xss, rfl, hx1, hl1, ht1, hc1, hd1⟩
  have b1 : Below (w.heap.size + 1) (w.alloc (.cells #[.slice none 0 0] 60)) w1 := hd1.of_alloc.bel (Nat.le_refl _) (by simp)
  have hz1 : Var1 w1 w.heap.size (.slice none 0 0) := (Var1.new w (.slice none 0 0) 60).below (by simpa using b1)
  have hs1 : w.heap.size + 2 ≤ w1.heap.size := by have := hd1.size; simpa using this
  have bm : Below w1.heap.size w1 (w1.alloc (.cells #[.slice a1 xss.length c1] 60)) := (by repeat (first | exact Below.refl _ _ | assumption | refine Below.alloc ?_ (by first | exact Nat.le_refl _ | (simp only [World.size_alloc, World.size_setCell, World.size_drew]; omega) | omega) _ | refine Below.setCell ?_ (by first | exact Nat.le_refl _ | (simp only [World.size_alloc, World.size_setCell, World.size_drew]; omega) | omega) _ | refine Below.drew ?_))
  have HX := Lib.hid (hx1.below bm)
  have HC := Lib.hid (hc1.below bm)
  have HZ := Lib.hid (hz1.below bm)
  have HV := Lib.hid (Var1.new w1 (.slice a1 xss.length c1) 60)
  have HB := Lib.hid ((ba.trans (b1.mono (by omega))).trans (bm.mono (by omega)))
  obtain ⟨w2, hw2⟩ : ∃ x : World, x = w1.alloc (.cells #[.slice a1 xss.length c1] 60) := ⟨_, rfl⟩
  rw [← hw2] at HX HC HZ HV HB
  have HW := Lib.hid hw2
  have hs2 : w2.heap.size = w1.heap.size + 1 := by rw [hw2]; simp
  have ⟨⟨zv, cv⟩, fv⟩ := HV.out
  clear hx1 hc1 hd1 hcur b1 ba bm hw2 hz1 hR
  go_wp2_with fail
  rw [← HW.out]
  have er : IntKind.i64.wrap ((xss.length : Int) + 3) = (xss.length : Int) + 3 := wrap64_small _ (by omega) (by omega)
  go_region_held3 (fun w' => w'.cell? ⟨w1.heap.size, 0, none⟩ = some (.slice a1 xss.length c1))
    (first | exact Q5.1.2 | exact Q4.1.2 | go_keep)
    (first | (go_at_call 75; refine (pick_any (w.heap.size + 1) 200 _ _ HC.out (by omega) (by first | omega | (rw [er]; omega))).mono ?_; rintro e w5 ⟨q, rfl, hq0, hq1, hc5, hd5⟩; (try rw [er] at hq1); have hs5 := hd5.size; have Q4 := HV.out.drawn hd5 (by omega); have Q5 := Q4.other (p := ⟨w.heap.size, 0, none⟩) (.slice a1 xss.length c1) (show w1.heap.size ≠ w.heap.size by omega); have HZ5 := Lib.hid (HZ.out.drawn hd5 (by omega)); have HX5 := Lib.hid (HX.out.kept hd5 (by simp)); have HB5 := Lib.hid ((HB.out.trans (hd5.bel (by omega) HB.out.size))); have er2 : IntKind.i64.wrap (q - 1) = q - 1 := wrap64_small _ (by omega) (by omega); have vz5 := HZ5.out; have ⟨⟨zz5, cz5⟩, fz5⟩ := vz5; clear hc5 hd5) | (go_at_call 75; refine (pick_any (w.heap.size + 1) 200 _ _ (HC.out.below (Joins.below_draws _ _ _)) (by omega) (by first | omega | (rw [er]; omega))).mono ?_; rintro e w5 ⟨q, rfl, hq0, hq1, hc5, hd5⟩; (try rw [er] at hq1); have hs5 := hd5.size; have Q4 := (HV.out.below (Joins.below_draws _ _ _)).drawn hd5 (by omega); have Q5 := Q4.other (p := ⟨w.heap.size, 0, none⟩) (.slice a1 xss.length c1) (show w1.heap.size ≠ w.heap.size by omega); have HZ5 := Lib.hid ((HZ.out.below (Joins.below_draws _ _ _)).drawn hd5 (by omega)); have HX5 := Lib.hid ((HX.out.below (Joins.below_draws _ _ _)).kept hd5 (by simp)); have HB5 := Lib.hid ((HB.out.trans ((Joins.below_draws w.heap.size w2 _).trans (hd5.bel (by omega) HB.out.size)))); have er2 : IntKind.i64.wrap (q - 1) = q - 1 := wrap64_small _ (by omega) (by omega); have vz5 := HZ5.out; have ⟨⟨zz5, cz5⟩, fz5⟩ := vz5; clear hc5 hd5))
  all_goals
    go_wp2_with fail
    have R3 := HZ5.out.set (.slice a1 xss.length c1)
    have hX5 := HX5.out.kept (grown_set w5 ⟨w.heap.size, 0, none⟩ (.slice a1 xss.length c1)) (by simp; omega)
    have hB5 := HB5.out.setCell (p := ⟨w.heap.size, 0, none⟩) (Nat.le_refl _) (.slice a1 xss.length c1)
    refine bodyPost_ret (v := .tuple #[.agg #[.slice a1 xss.length c1], .int .i64 (q - 1)]) (by have ⟨⟨_, q1⟩, _⟩ := R3; simp [results, Try.results39, go_sem, q1]) rfl ?_
    exact ⟨a1, c1, xss, q - 1, rfl, hX5.rdC, ht1, by omega, hB5⟩

set_option maxRecDepth 100000 in
theorem drShrink_any (a : Option Addr) (n cap : Nat) (w : World) (hR : RdB w a n) (hn : n ≤ 1048576) :
    Calls Try.prog 43 #[.slice a n cap] w (DrawnM w) := by
  have ba : Below w.heap.size w (w.alloc (.cells #[.slice none 0 0] 60)) := (by repeat (first | exact Below.refl _ _ | assumption | refine Below.alloc ?_ (by first | exact Nat.le_refl _ | (simp only [World.size_alloc, World.size_setCell, World.size_drew]; omega) | omega) _ | refine Below.setCell ?_ (by first | exact Nat.le_refl _ | (simp only [World.size_alloc, World.size_setCell, World.size_drew]; omega) | omega) _ | refine Below.drew ?_))
  go_enter Try.func43, Try.ntmps43
  go_wp2_with fail
  have hcur := cur_new (w := w.alloc (.cells #[.slice none 0 0] 60)) (cap := cap) (t := 83) (hR.below ba) hn
  rw [World.size_alloc] at hcur
  refine (matrix_any (w.heap.size + 1) 0 9 _ hcur (by omega) (by omega)).mono ?_
  rintro e w1 ⟨a1, c1, xss, rfl, hx1, hl1, ht1, hc1, hd1⟩
  have b1 : Below (w.heap.size + 1) (w.alloc (.cells #[.slice none 0 0] 60)) w1 := hd1.of_alloc.bel (Nat.le_refl _) (by simp)
  have hz1 : Var1 w1 w.heap.size (.slice none 0 0) := (Var1.new w (.slice none 0 0) 60).below (by simpa using b1)
  have HX1 := Lib.hid ((hx1.kept (grown_set w1 ⟨w.heap.size, 0, none⟩ (.slice a1 xss.length c1)) (by simp; omega)).rdC)
  have HB1 := Lib.hid ((ba.trans (b1.mono (by omega))).setCell (p := ⟨w.heap.size, 0, none⟩) (Nat.le_refl _) (.slice a1 xss.length c1))
  have HZ := Lib.hid (hz1.set (.slice a1 xss.length c1))
  have ⟨⟨zz, cz⟩, fz⟩ := hz1
  clear hx1 hc1 hd1 hcur b1 ba
  go_wp2_with fail
  have R3 := HZ.out
  refine bodyPost_ret (v := .agg #[.slice a1 xss.length c1]) (by have ⟨⟨_, q1⟩, _⟩ := R3; simp [results, Try.results43, go_sem, q1]) rfl ?_
  exact ⟨a1, c1, xss, rfl, HX1.out, ht1, HB1.out⟩

def eqL (xs ys : List Int) : Bool := decide (xs = ys)
theorem eqL_self (xs : List Int) : eqL xs xs = true := by simp [eqL]

theorem pSame_any (a b : Option Addr) (xs ys : List Int) (ca cb : Nat) (w : World) (hx : Rd w a xs) (hy : Rd w b ys) :
    Calls Try.prog 32 #[.slice a xs.length ca, .slice b ys.length cb] w fun e w' => e = .returned (.bool (eqL xs ys)) ∧ Below w.heap.size w w' := by
  have hlx := hx.len
  have hly := hy.len
  by_cases hl : xs.length = ys.length
  · have hl' : ((xs.length : Int) != (ys.length : Int)) = false := by simp [hl]
    go_enter Try.func32, Try.ntmps32
    have HL := Lib.hid hl
    clear hl
    go_wp2_with fail
    go_loopw [13] (fun i wr => ∃ k : Nat, k ≤ xs.length ∧ i = .int .i64 k ∧ xs.take k = ys.take k ∧ Below w.heap.size w wr) (fun i _ => xs.length - (intOf i).toNat)
    case atStart => exact ⟨0, Nat.zero_le _, rfl, rfl, Below.refl _ _⟩
    case round =>
      obtain ⟨k, hk, rfl, htk, hb⟩ := hrel
      have HT := Lib.hid htk
      clear htk
      by_cases hlt : k < xs.length
      · have hlt' : k < ys.length := by rw [← HL.out]; exact hlt
        obtain ⟨b1, o1, rfl, hb1, hc1⟩ := (hx.below hb).cell k hlt
        obtain ⟨b2, o2, rfl, hb2, hc2⟩ := (hy.below hb).cell k hlt'
        have k1 : (k : Int) < (xs.length : Int) := by omega
        have k2 : (k : Int) < (ys.length : Int) := by omega
        by_cases he : nth xs k = nth ys k
        · have he' : (nth xs k != nth ys k) = false := by simp [he]
          have HE := Lib.hid he
          clear he
          go_wp2_with fail
          go_quiet (fail)
          go_wp2_with fail
          go_roundw
          case rel =>
            refine ⟨k + 1, by omega, by go_num, ?_, by exact hb.trans (Joins.below_draws _ _ _)⟩
            rw [List.take_succ_eq_append_getElem hlt, List.take_succ_eq_append_getElem hlt', HT.out, ← nth_get, ← nth_get, HE.out]
          case measure => simp [intOf]; omega
        · have he' : (nth xs k != nth ys k) = true := by simp [he]
          have hne : eqL xs ys = false := by
            simp only [eqL, decide_eq_false_iff_not]
            intro e
            subst e
            exact he rfl
          have HN := Lib.hid hne
          clear he hne
          go_wp2_with fail
          go_quiet (fail)
          go_wp2_with fail
          go_ret
          exact ⟨ret_bool HN.out.symm, hb.trans (Joins.below_draws _ _ _)⟩
      · go_wp2_with fail
        go_ret
        refine ⟨ret_bool ?_, hb⟩
        have h1 := HT.out
        rw [List.take_of_length_le (by omega), List.take_of_length_le (by rw [← HL.out]; omega)] at h1
        simp [eqL, h1]
  · have hl' : ((xs.length : Int) != (ys.length : Int)) = true := by simp; omega
    have hne : eqL xs ys = false := by
      simp only [eqL, decide_eq_false_iff_not]
      intro e
      exact hl (by rw [e])
    have HN := Lib.hid hne
    clear hl hne
    go_enter Try.func32, Try.ntmps32
    go_wp2_with fail
    go_ret
    exact ⟨ret_bool HN.out.symm, Below.refl _ _⟩

set_option maxRecDepth 100000 in
theorem pSameM_same (a b : Option Addr) (xss : List (List Int)) (ca cb : Nat) (w : World) (hx : RdC w a xss) (hy : RdC w b xss) (hn : xss.length ≤ 1048576) :
    Calls Try.prog 42 #[.agg #[.slice a xss.length ca], .agg #[.slice b xss.length cb]] w fun e w' => e = .returned (.bool true) ∧ Below w.heap.size w w' := by
  have b1 : Below w.heap.size w ((w.alloc (.cells #[.slice a xss.length ca] 60)).alloc (.cells #[.slice b xss.length cb] 60)) := (by repeat (first | exact Below.refl _ _ | assumption | refine Below.alloc ?_ (by first | exact Nat.le_refl _ | (simp only [World.size_alloc, World.size_setCell, World.size_drew]; omega) | omega) _ | refine Below.setCell ?_ (by first | exact Nat.le_refl _ | (simp only [World.size_alloc, World.size_setCell, World.size_drew]; omega) | omega) _ | refine Below.drew ?_))
  have HX := Lib.hid (hx.below b1)
  have HY := Lib.hid (hy.below b1)
  have HB := Lib.hid b1
  clear hx hy b1
  go_enter Try.func42, Try.ntmps42
  go_wp2_with fail
  obtain ⟨w1, hw1⟩ : ∃ x : World, x = (w.alloc (.cells #[.slice a xss.length ca] 60)).alloc (.cells #[.slice b xss.length cb] 60) := ⟨_, rfl⟩
  have hA : w.heap.size < w1.heap.size ∧ w1.cell? ⟨w.heap.size, 0, none⟩ = some (.slice a xss.length ca) := by rw [hw1]; exact ⟨by simp; omega, by simp⟩
  have hB : w.heap.size + 1 < w1.heap.size ∧ w1.cell? ⟨w.heap.size + 1, 0, none⟩ = some (.slice b xss.length cb) := by rw [hw1]; exact ⟨by simp, by simp⟩
  rw [← hw1] at HX HY HB ⊢
  have HA := Lib.hid hA
  have HC := Lib.hid hB
  clear hw1 hA hB
  go_loopw [16] (fun i wr => ∃ k : Nat, k ≤ xss.length ∧ i = .int .i64 k ∧ Below w1.heap.size w1 wr) (fun i _ => xss.length - (intOf i).toNat)
  case atStart => exact ⟨0, Nat.zero_le _, rfl, Below.refl _ _⟩
  case round =>
    obtain ⟨k, hk, rfl, hb⟩ := hrel
    by_cases hlt : k < xss.length
    · have k1 : (k : Int) < (xss.length : Int) := by omega
      have HT := Lib.hid hb
      have cA := (hb.cell (p := ⟨w.heap.size, 0, none⟩) HA.out.1).trans HA.out.2
      have cB := (hb.cell (p := ⟨w.heap.size + 1, 0, none⟩) HC.out.1).trans HC.out.2
      obtain ⟨g1, o1, a1, c1, rfl, hg1, hc1, hr1, hl1⟩ := (HX.out.below hb).row hlt
      obtain ⟨g2, o2, a2, c2, rfl, hg2, hc2, hr2, hl2⟩ := (HY.out.below hb).row hlt
      have HR1 := Lib.hid hr1
      have HR2 := Lib.hid hr2
      generalize rowL xss k = R at *
      have HEQ : Hid (eqL R R = true) := by simp [Hid, eqL]
      have h9a := hb.size
      clear hb hr1 hr2
      go_wp2_with fail
      go_region_held3 (fun w' => w'.cell? ⟨w.heap.size, 0, none⟩ = some (.slice (some ⟨g1, o1, none⟩) xss.length ca) ∧ w'.cell? ⟨w.heap.size + 1, 0, none⟩ = some (.slice (some ⟨g2, o2, none⟩) xss.length cb) ∧ w'.cell? ⟨g1, o1 + k, none⟩ = some (.slice a1 R.length c1) ∧ w'.cell? ⟨g2, o2 + k, none⟩ = some (.slice a2 R.length c2))
        (first | exact ⟨qA, qB, qC, qD⟩ | go_keep)
        (first | (go_at_call 32; refine (pSame_any a1 a2 R R c1 c2 _ (HR1.out.below (Joins.below_draws _ _ _)) (HR2.out.below (Joins.below_draws _ _ _))).mono ?_; rw [HEQ.out]; rintro e w5 ⟨rfl, hb5⟩; have ht5 : Below wr.heap.size wr w5 := (Joins.below_draws _ _ _).trans hb5; have qA := (ht5.cell (p := ⟨w.heap.size, 0, none⟩) (show w.heap.size < wr.heap.size by have := HA.out.1; omega)).trans cA; have qB := (ht5.cell (p := ⟨w.heap.size + 1, 0, none⟩) (show w.heap.size + 1 < wr.heap.size by have := HC.out.1; omega)).trans cB; have qC := (ht5.cell (p := ⟨g1, o1 + k, none⟩) hg1).trans hc1; have qD := (ht5.cell (p := ⟨g2, o2 + k, none⟩) hg2).trans hc2))
      go_wp2_with fail
      go_roundw
      case rel => exact ⟨k + 1, by omega, by go_num, HT.out.trans (ht5.mono HT.out.size)⟩
      case measure => simp [intOf]; omega
    · obtain rfl : k = xss.length := by omega
      go_wp2_with fail
      go_ret
      exact ⟨rfl, HB.out.trans (hb.mono HB.out.size)⟩

/-- are the two inputs together within the bound? -/
theorem big_any (a b : Option Addr) (n m c1 c2 : Nat) (w : World) (hn : n ≤ 9223372036854775807) (hm : m ≤ 9223372036854775807) :
    Calls Try.prog 9 #[.slice a n c1, .slice b m c2] w fun e w' => ((e = .returned (.bool true)) ∨ (e = .returned (.bool false) ∧ n ≤ 1048576 ∧ m ≤ 1048576)) ∧ w = w' := by
  by_cases h1 : 1048576 < (n : Int)
  · go_enter Try.func9, Try.ntmps9
    go_wp2_with fail
    go_ret
    exact ⟨.inl rfl, rfl⟩
  · by_cases h2 : 1048576 - (n : Int) < (m : Int)
    · go_enter Try.func9, Try.ntmps9
      go_wp2_with fail
      go_ret
      exact ⟨.inl rfl, rfl⟩
    · have h9 : n ≤ 1048576 ∧ m ≤ 1048576 := by omega
      go_enter Try.func9, Try.ntmps9
      go_wp2_with fail
      go_ret
      first | exact ⟨.inr ⟨rfl, h9.1, h9.2⟩, rfl⟩ | exact ⟨.inr rfl, rfl⟩

end Go.Proofs.Ytdmhjmcljpladaa.growingIsUndone
