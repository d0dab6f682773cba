/- PROVED: the law FnExtensionsAccepted returns true for every input, and each of its arguments reads afterwards as before. No conditions. -/
import Derived.Test.YtjddjfckflgojaaRows
import Derived.WalkKit
import Derived.WalkSpells
import Derived.WalkLawsBesides
import Derived.Deep.QuietTactic
import Derived.BigQuiet
import Derived.ProofKit
import Derived.OpenShut
import Derived.ShutString
import Derived.ChangeOld
import Derived.Below
import Derived.Lib.SmallJoins
import Derived.Lib.Hide
import Derived.Maps.AppendAt
import Derived.Deep.AppendLies
import Derived.Deep.RegionHeld3
import Derived.Deep.DeepCutAuto
import Derived.StillTail
import Derived.Test.YtjddjfckflgojaaExtensionsAcceptedP1
namespace Go.Proofs.Ytjddjfckflgojaa.extensionsAccepted
open Go Go.RowKit
set_option linter.unusedVariables false
set_option linter.unusedSimpArgs false
set_option maxHeartbeats 400000
/-- an order and a list that a law draws -/
def DrawnOL (w : World) (e : Ending) (w' : World) : Prop :=
  ∃ (n : Int) (a : Option Addr) (cap : Nat) (xs : List Int) (b : Option Addr) (cap2 : Nat) (es : List Int), e = .returned (.tuple #[.agg #[.int .i64 n, .slice a xs.length cap], .slice b es.length cap2]) ∧ OwnI w' w.heap.size (.slice a xs.length cap) xs ∧ xs.length ≤ 10 ∧ -1 ≤ n ∧ n ≤ 11 ∧ (∀ k, k < xs.length → -1 ≤ nth xs k ∧ nth xs k ≤ 1024) ∧ OwnI w' w.heap.size (.slice b es.length cap2) es ∧ es.length ≤ 12 ∧ (∀ k, k < es.length → -1 ≤ nth es k ∧ nth es k ≤ 1024) ∧ Below w.heap.size w w'
set_option maxRecDepth 100000 in
set_option maxHeartbeats 1000000 in
theorem drIsExt_any (a : Option Addr) (n cap : Nat) (w : World) (hR : RdB w a n) (hn : n ≤ 1048576) :
    Calls Try.prog 25 #[.slice a n cap] w (DrawnOL w) := by
  unfold DrawnOL
  go_enter Try.func25, Try.ntmps25
  go_wp2_with fail
  have ba : Below w.heap.size w (w.alloc (.cells #[.int .i64 0, .slice none 0 0] 26)) := (by repeat (first | exact Below.refl _ _ | assumption | refine Below.alloc ?_ (by first | exact Nat.le_refl _ | (simp only [World.size_alloc, World.size_setCell, World.size_drew]; omega) | omega) _ | refine Below.setCell ?_ (by first | exact Nat.le_refl _ | (simp only [World.size_alloc, World.size_setCell, World.size_drew]; omega) | omega) _ | refine Below.drew ?_))
  have hcur := cur_new (w := w.alloc (.cells #[.int .i64 0, .slice none 0 0] 26)) (cap := cap) (t := 61) (hR.below ba) hn
  rw [World.size_alloc] at hcur
  refine (anyOrder_any (w.heap.size + 1) 0 6 _ hcur (by omega) (by omega)).mono ?_
  rintro e w1 ⟨n1, a1, c1, xs, rfl, ho1, hl1, h0, h1, hx1, hc1, hd1⟩
  have b1 : Below (w.heap.size + 1) (w.alloc (.cells #[.int .i64 0, .slice none 0 0] 26)) w1 := hd1.of_alloc.bel (Nat.le_refl _) (by simp)
  have hR1 : Var2 w1 w.heap.size (.int .i64 0) (.slice none 0 0) := (Var2.new w (.int .i64 0) (.slice none 0 0) 26).below (by simpa using b1)
  have hs1 : w.heap.size + 2 ≤ w1.heap.size := by have := hd1.size; simpa using this
  have bw1 : Below w.heap.size w w1 := ba.trans (b1.mono (by omega))
  have hO1 := ho1.mono (B' := w.heap.size + 2) (by simp)
  have bb1 : Below w1.heap.size w1 (w1.alloc (.cells #[.int .i64 n1, .slice a1 xs.length c1] 26)) := (by repeat (first | exact Below.refl _ _ | assumption | refine Below.alloc ?_ (by first | exact Nat.le_refl _ | (simp only [World.size_alloc, World.size_setCell, World.size_drew]; omega) | omega) _ | refine Below.setCell ?_ (by first | exact Nat.le_refl _ | (simp only [World.size_alloc, World.size_setCell, World.size_drew]; omega) | omega) _ | refine Below.drew ?_))
  have HB2 := Lib.hid (Var2.new w1 (.int .i64 n1) (.slice a1 xs.length c1) 26)
  have HC2 := Lib.hid (hc1.below bb1)
  have HO2 := Lib.hid (hO1.below bb1 (Nat.le_refl _))
  have HR2 := Lib.hid (hR1.below bb1)
  have HT2 := Lib.hid (bw1.trans (bb1.mono bw1.size))
  obtain ⟨w2, hw2⟩ : ∃ x : World, x = w1.alloc (.cells #[.int .i64 n1, .slice a1 xs.length c1] 26) := ⟨_, rfl⟩
  have HW2 := Lib.hid hw2
  have hs2 : w1.heap.size + 1 = w2.heap.size := by rw [hw2]; simp
  have HX1 := Lib.hid hx1
  rw [← hw2] at HB2 HC2 HO2 HR2 HT2
  have ⟨⟨zB, cB, dB⟩, fB, gB⟩ := HB2.out
  have hnn : -9223372036854775808 ≤ n1 ∧ n1 ≤ 9223372036854775807 := by omega
  clear hw2 hx1 hcur hc1 hd1 hR1 bw1 hO1 bb1 ho1 b1
  go_wp2_with fail
  rw [← HW2.out]
  refine (orGood_any n1 a1 xs c1 w2 HO2.out.rd).mono ?_
  rintro e w3 ⟨rfl, hb3⟩
  have hs3 := hb3.size
  have HB3 := Lib.hid (HB2.out.below hb3)
  have HC3 := Lib.hid (HC2.out.below hb3)
  have HO3 := Lib.hid (HO2.out.below hb3 (Nat.le_refl _))
  have HR3 := Lib.hid (HR2.out.below hb3)
  have HT3 := Lib.hid (HT2.out.trans (hb3.mono HT2.out.size))
  clear hb3 cB dB zB fB gB HB2 HC2 HO2 HR2 HT2
  cases hob : ordB n1 xs
  · have ⟨⟨zB, cB, dB⟩, fB, gB⟩ := HB3.out
    clear hob
    obtain ⟨q, hq, hq11⟩ : ∃ q : Nat, maxI 0 n1 = (q : Int) ∧ q ≤ 11 := ⟨(maxI 0 n1).toNat, by unfold maxI; split <;> omega, by unfold maxI; split <;> omega⟩
    go_wp2_with fail
    go_region_held3 (fun w' => w'.cell? ⟨w1.heap.size, 0, none⟩ = some (.int .i64 n1) ∧ w'.cell? ⟨w1.heap.size, 1, none⟩ = some (.slice a1 xs.length c1))
      (first | exact ⟨Q5.1.2.1, Q5.1.2.2⟩ | exact ⟨Q4.1.2.1, Q4.1.2.2⟩ | go_keep)
      (first | (go_at_call 73; refine (names_any (w.heap.size + 1) 1000 q _ (HC3.out.below (Joins.below_draws _ _ _)) (by omega) hq11).mono ?_; rintro e w5 ⟨a5, c5, es, rfl, ho5, hl5, hx5, hc5, hd5⟩; have Q4 := (HB3.out.below (Joins.below_draws _ _ _)).drawn hd5 (by omega); have Q5 := (Q4.other (p := ⟨w.heap.size, 0, none⟩) (.int .i64 n1) (show w1.heap.size ≠ w.heap.size by omega)).other (p := ⟨w.heap.size, 1, none⟩) (.slice a1 xs.length c1) (show w1.heap.size ≠ w.heap.size by omega); have R5 := (HR3.out.below (Joins.below_draws _ _ _)).drawn hd5 (by omega); have ⟨⟨zR5, cR5, dR5⟩, fR5, gR5⟩ := R5; have hd6 := ((Drawn.refl w3 (w.heap.size + 1)).below (Joins.below_draws _ _ _)).trans hd5; have ho6 : OwnI w5 w3.heap.size (.slice a5 es.length c5) es := ho5.mono (Joins.below_draws w3.heap.size w3 _).size) | (go_at_call 74; refine (l1Most_any 0 n1 _).mono ?_; rintro e w5 ⟨rfl, rfl⟩; rw [hq]))
    go_wp2_with fail
    have T5 := HT3.out.trans (hd6.bel (B := w.heap.size) (by omega) (by omega))
    have hO5 := HO3.out.drawn hd6 (by omega)
    have R3 := R5.set (.int .i64 n1) (.slice a1 xs.length c1)
    refine bodyPost_ret (v := .tuple #[.agg #[.int .i64 n1, .slice a1 xs.length c1], .slice a5 es.length c5]) (by have ⟨⟨_, q1, q2⟩, _, _⟩ := R3; simp [results, Try.results25, go_sem, q1, q2]) rfl ?_
    exact ⟨n1, a1, c1, xs, a5, c5, es, rfl, ((hO5.setBelow (p := ⟨w.heap.size, 0, none⟩) (show w.heap.size < w.heap.size + 2 by omega) _).setBelow (p := ⟨w.heap.size, 1, none⟩) (show w.heap.size < w.heap.size + 2 by omega) _).mono (by omega), hl1, h0, h1, HX1.out, ((ho6.setBelow (p := ⟨w.heap.size, 0, none⟩) (show w.heap.size < w3.heap.size by omega) _).setBelow (p := ⟨w.heap.size, 1, none⟩) (show w.heap.size < w3.heap.size by omega) _).mono (by omega), hl5, hx5, (T5.setCell (p := ⟨w.heap.size, 0, none⟩) (Nat.le_refl _) _).setCell (p := ⟨w.heap.size, 1, none⟩) (Nat.le_refl _) _⟩
  · go_wp2_with fail
    refine (one_any (w.heap.size + 1) 1000 2 _ HC3.out (by omega) (by omega)).mono ?_
    rintro e w4 ⟨he, hc4, hd4⟩
    have hs4 := hd4.size
    have HB4 := Lib.hid (HB3.out.drawn hd4 (by omega))
    have HC4 := Lib.hid hc4
    have HO4 := Lib.hid (HO3.out.drawn hd4 (by omega))
    have HR4 := Lib.hid (HR3.out.drawn hd4 (by omega))
    have HT4 := Lib.hid (HT3.out.trans (hd4.bel (B := w.heap.size) (by omega) (by omega)))
    have HOB := Lib.hid hob
    clear hc4 hd4 hob HB3 HC3 HO3 HR3 HT3
    have ⟨⟨zB, cB, dB⟩, fB, gB⟩ := HB4.out
    have ⟨⟨zR, cR, dR⟩, fR, gR⟩ := HR4.out
    rcases he with rfl | rfl
    · clear cR dR zR fR gR
      have hlf : (firsts xs xs.length).length = xs.length := firsts_len _ _
      have hxf : ∀ k, k < (firsts xs xs.length).length → -1 ≤ nth (firsts xs xs.length) k ∧ nth (firsts xs xs.length) k ≤ 1024 := fun k hk => by
        have := firsts_small HOB.out xs.length (Nat.le_refl _) k (by omega)
        omega
      have HXF := Lib.hid hxf
      clear hxf
      go_wp2_with fail
      go_region_held3 (fun w' => w'.cell? ⟨w1.heap.size, 0, none⟩ = some (.int .i64 n1) ∧ w'.cell? ⟨w1.heap.size, 1, none⟩ = some (.slice a1 xs.length c1))
        (first | exact ⟨Q5.1.2.1, Q5.1.2.2⟩ | exact ⟨Q4.1.2.1, Q4.1.2.2⟩ | go_keep)
        (first | (go_at_call 72; refine (orFirst_any n1 a1 xs c1 _ (HO4.out.rd.below (Joins.below_draws _ _ _)) HOB.out).mono ?_; rintro e w5 ⟨a5, c5, rfl, ho5, hb5⟩; have hb6 : Below w4.heap.size w4 w5 := (Joins.below_draws w4.heap.size w4 _).trans (hb5.mono (Joins.below_draws w4.heap.size w4 _).size); have Q4 := HB4.out.below hb6; have Q5 := (Q4.other (p := ⟨w.heap.size, 0, none⟩) (.int .i64 n1) (show w1.heap.size ≠ w.heap.size by omega)).other (p := ⟨w.heap.size, 1, none⟩) (.slice a1 xs.length c1) (show w1.heap.size ≠ w.heap.size by omega); have R5 := HR4.out.below hb6; have ⟨⟨zR5, cR5, dR5⟩, fR5, gR5⟩ := R5; have ho6 : OwnI w5 w4.heap.size (.slice a5 xs.length c5) (firsts xs xs.length) := ho5.mono (Joins.below_draws w4.heap.size w4 _).size))
      go_wp2_with fail
      have T5 := HT4.out.trans (hb6.mono HT4.out.size)
      have hO5 := HO4.out.below hb6 (Nat.le_refl _)
      have R3 := R5.set (.int .i64 n1) (.slice a1 xs.length c1)
      refine bodyPost_ret (v := .tuple #[.agg #[.int .i64 n1, .slice a1 xs.length c1], .slice a5 xs.length c5]) (by have ⟨⟨_, q1, q2⟩, _, _⟩ := R3; simp [results, Try.results25, go_sem, q1, q2]) rfl ?_
      exact ⟨n1, a1, c1, xs, a5, c5, firsts xs xs.length, by rw [hlf], ((hO5.setBelow (p := ⟨w.heap.size, 0, none⟩) (show w.heap.size < w.heap.size + 2 by omega) _).setBelow (p := ⟨w.heap.size, 1, none⟩) (show w.heap.size < w.heap.size + 2 by omega) _).mono (by omega), hl1, h0, h1, HX1.out, by rw [hlf]; exact ((ho6.setBelow (p := ⟨w.heap.size, 0, none⟩) (show w.heap.size < w4.heap.size by omega) _).setBelow (p := ⟨w.heap.size, 1, none⟩) (show w.heap.size < w4.heap.size by omega) _).mono (by omega), by omega, HXF.out, (T5.setCell (p := ⟨w.heap.size, 0, none⟩) (Nat.le_refl _) _).setCell (p := ⟨w.heap.size, 1, none⟩) (Nat.le_refl _) _⟩
    · clear cR dR zR fR gR
      obtain ⟨q, hq, hq11⟩ : ∃ q : Nat, maxI 0 n1 = (q : Int) ∧ q ≤ 11 := ⟨(maxI 0 n1).toNat, by unfold maxI; split <;> omega, by unfold maxI; split <;> omega⟩
      go_wp2_with fail
      go_region_held3 (fun w' => w'.cell? ⟨w1.heap.size, 0, none⟩ = some (.int .i64 n1) ∧ w'.cell? ⟨w1.heap.size, 1, none⟩ = some (.slice a1 xs.length c1))
        (first | exact ⟨Q5.1.2.1, Q5.1.2.2⟩ | exact ⟨Q4.1.2.1, Q4.1.2.2⟩ | go_keep)
        (first | (go_at_call 73; refine (names_any (w.heap.size + 1) 1002 q _ (HC4.out.below (Joins.below_draws _ _ _)) (by omega) hq11).mono ?_; rintro e w5 ⟨a5, c5, es, rfl, ho5, hl5, hx5, hc5, hd5⟩; have Q4 := (HB4.out.below (Joins.below_draws _ _ _)).drawn hd5 (by omega); have Q5 := (Q4.other (p := ⟨w.heap.size, 0, none⟩) (.int .i64 n1) (show w1.heap.size ≠ w.heap.size by omega)).other (p := ⟨w.heap.size, 1, none⟩) (.slice a1 xs.length c1) (show w1.heap.size ≠ w.heap.size by omega); have R5 := (HR4.out.below (Joins.below_draws _ _ _)).drawn hd5 (by omega); have ⟨⟨zR5, cR5, dR5⟩, fR5, gR5⟩ := R5; have hd6 := ((Drawn.refl w4 (w.heap.size + 1)).below (Joins.below_draws _ _ _)).trans hd5; have ho6 : OwnI w5 w4.heap.size (.slice a5 es.length c5) es := ho5.mono (Joins.below_draws w4.heap.size w4 _).size) | (go_at_call 74; refine (l1Most_any 0 n1 _).mono ?_; rintro e w5 ⟨rfl, rfl⟩; rw [hq]))
      go_wp2_with fail
      have T5 := HT4.out.trans (hd6.bel (B := w.heap.size) (by omega) (by omega))
      have hO5 := HO4.out.drawn hd6 (by omega)
      have R3 := R5.set (.int .i64 n1) (.slice a1 xs.length c1)
      refine bodyPost_ret (v := .tuple #[.agg #[.int .i64 n1, .slice a1 xs.length c1], .slice a5 es.length c5]) (by have ⟨⟨_, q1, q2⟩, _, _⟩ := R3; simp [results, Try.results25, go_sem, q1, q2]) rfl ?_
      exact ⟨n1, a1, c1, xs, a5, c5, es, rfl, ((hO5.setBelow (p := ⟨w.heap.size, 0, none⟩) (show w.heap.size < w.heap.size + 2 by omega) _).setBelow (p := ⟨w.heap.size, 1, none⟩) (show w.heap.size < w.heap.size + 2 by omega) _).mono (by omega), hl1, h0, h1, HX1.out, ((ho6.setBelow (p := ⟨w.heap.size, 0, none⟩) (show w.heap.size < w4.heap.size by omega) _).setBelow (p := ⟨w.heap.size, 1, none⟩) (show w.heap.size < w4.heap.size by omega) _).mono (by omega), hl5, hx5, (T5.setCell (p := ⟨w.heap.size, 0, none⟩) (Nat.le_refl _) _).setCell (p := ⟨w.heap.size, 1, none⟩) (Nat.le_refl _) _⟩

theorem pIn_any (s i : Int) (w : World) (h0 : 0 ≤ s) (h1 : s ≤ 9223372036854775807) (hi : 0 ≤ i) :
    Calls Try.prog 18 #[.int .i64 s, .int .i64 i] w fun e w' => e = .returned (.bool (hasB s i)) ∧ w = w' := by
  have H := Lib.hid (has_mod h0 h1 hi)
  go_enter Try.func18, Try.ntmps18
  go_wp2
  go_ret
  exact ⟨ret_bool H.out, rfl⟩

/-- are the two inputs together within the bound? -/
theorem big_any (a b : Option Addr) (n m c1 c2 : Nat) (w : World) (hn : n ≤ 9223372036854775807) (hm : m ≤ 9223372036854775807) :
    Calls Try.prog 10 #[.slice a n c1, .slice b m c2] w fun e w' => ((e = .returned (.bool true)) ∨ (e = .returned (.bool false) ∧ n ≤ 1048576 ∧ m ≤ 1048576)) ∧ w = w' := by
  by_cases h1 : 1048576 < (n : Int)
  · go_enter Try.func10, Try.ntmps10
    go_wp2_with fail
    go_ret
    exact ⟨.inl rfl, rfl⟩
  · by_cases h2 : 1048576 - (n : Int) < (m : Int)
    · go_enter Try.func10, Try.ntmps10
      go_wp2_with fail
      go_ret
      exact ⟨.inl rfl, rfl⟩
    · have h9 : n ≤ 1048576 ∧ m ≤ 1048576 := by omega
      go_enter Try.func10, Try.ntmps10
      go_wp2_with fail
      go_ret
      first | exact ⟨.inr ⟨rfl, h9.1, h9.2⟩, rfl⟩ | exact ⟨.inr rfl, rfl⟩

theorem hasElement_any (s i : Int) (w : World) (h0 : 0 ≤ s) (h1 : s ≤ 9223372036854775807) (hi : 0 ≤ i) :
    Calls Try.prog 60 #[.int .i64 s, .int .i64 i] w fun e w' => e = .returned (.bool (hasB s i)) ∧ w = w' := by
  have H := Lib.hid (has_and h0 h1 hi)
  go_enter Try.func60, Try.ntmps60
  go_wp2
  go_ret
  exact ⟨ret_bool H.out, rfl⟩

theorem aboveAny_any (n : Int) (a : Option Addr) (xs : List Int) (cap : Nat) (s : Int) (w : World) (hx : Rd w a xs) (hr : RelP n xs) (h0 : 0 ≤ s) (h1 : s ≤ 9223372036854775807) :
    Calls Try.prog 61 #[.agg #[.int .i64 n, .slice a xs.length cap], .int .i64 s] w fun e w' => e = .returned (.int .i64 (aboveTo xs s xs.length)) ∧ Below w.heap.size w w' := by
  have hx1 := hx.alloc (.cells #[.int .i64 n, .slice a xs.length cap] 26)
  obtain rfl : n = (xs.length : Int) := hr.len.symm
  have hn : xs.length ≤ 10 := by have := hr.n1; omega
  go_enter Try.func61, Try.ntmps61
  go_wp2_with fail
  go_loop [5, 9] (fun s' i' => ∃ k : Nat, k ≤ xs.length ∧ i' = .int .i64 k ∧ s' = .int .i64 (aboveTo xs s k)) (fun _ i => xs.length - (intOf i).toNat)
  case atStart => exact ⟨0, Nat.zero_le _, rfl, rfl⟩
  case round =>
    obtain ⟨k, hk, rfl, rfl⟩ := hrel
    by_cases hlt : k < xs.length
    · obtain ⟨b, off, rfl, hbl, hc⟩ := hx1.cell k hlt
      obtain ⟨b', off', e', hbl', hc'⟩ := hx.cell k hlt
      simp only [Option.some.injEq, Addr.mk.injEq, and_true] at e'
      obtain ⟨rfl, rfl⟩ := e'
      have hpk := hr.pos k hlt
      have hsk := hr.small k hlt
      have hab := aboveTo_lt hr s k hk
      have hor := Lib.hid (or_i (a := (aboveTo xs s k : Nat)) (b := nth xs k) (by omega) (by omega) hpk (by omega))
      clear hab
      cases hin : hasB s k
      · go_wp2_with (go_at_call 60; refine (hasElement_any _ _ _ h0 h1 (by omega)).mono ?_; rintro e w' ⟨rfl, rfl⟩)
        go_round
        case rel => exact ⟨k + 1, by omega, by go_num, by simp [aboveTo, hin]⟩
        case measure => simp [intOf]; omega
      · go_wp2_with (go_at_call 60; refine (hasElement_any _ _ _ h0 h1 (by omega)).mono ?_; rintro e w' ⟨rfl, rfl⟩)
        go_round
        case rel => exact ⟨k + 1, by omega, by go_num, val_int (by rw [hor.out]; simp [aboveTo, hin])⟩
        case measure => simp [intOf]; omega
    · obtain rfl : k = xs.length := by omega
      go_wp2_with fail
      go_ret
      exact ⟨rfl, (by repeat (first | exact Below.refl _ _ | assumption | refine Below.alloc ?_ (by first | exact Nat.le_refl _ | (simp only [World.size_alloc, World.size_setCell, World.size_drew]; omega) | omega) _ | refine Below.setCell ?_ (by first | exact Nat.le_refl _ | (simp only [World.size_alloc, World.size_setCell, World.size_drew]; omega) | omega) _ | refine Below.drew ?_))⟩

theorem fullSet_any (n : Int) (w : World) (h0 : 0 ≤ n) (h1 : n ≤ 10) :
    Calls Try.prog 99 #[.int .i64 n] w fun e w' => e = .returned (.int .i64 (2 ^ n.toNat - 1)) ∧ w = w' := by
  have hf := Lib.hid (full_eq h0 h1)
  go_enter Try.func99, Try.ntmps99
  go_wp2
  go_ret
  exact ⟨ret_int hf.out, rfl⟩

theorem isSet_any (s n : Int) (w : World) (h0' : 0 ≤ n) (h1' : n ≤ 10) :
    Calls Try.prog 80 #[.int .i64 s, .int .i64 n] w fun e w' => e = .returned (.bool (inB s 0 (2 ^ n.toNat - 1))) ∧ w = w' := by
  by_cases h0 : 0 ≤ s
  · by_cases h1 : s ≤ 2 ^ n.toNat - 1
    · have hf := Lib.hid (inB_iff.2 ⟨h0, h1⟩)
      go_enter Try.func80, Try.ntmps80
      go_wp2_with (go_at_call 99; refine (fullSet_any _ _ h0' h1').mono ?_; rintro e w' ⟨rfl, rfl⟩)
      go_ret
      exact ⟨ret_bool (by rw [hf.out]; try simp [h1]), rfl⟩
    · have hf := Lib.hid (inB_no (lo := 0).2 (.inr (show 2 ^ n.toNat - 1 < s by omega)))
      go_enter Try.func80, Try.ntmps80
      go_wp2_with (go_at_call 99; refine (fullSet_any _ _ h0' h1').mono ?_; rintro e w' ⟨rfl, rfl⟩)
      go_ret
      exact ⟨ret_bool (by rw [hf.out]; try simp [h1]), rfl⟩
  · have hf := Lib.hid (inB_no (hi := 2 ^ n.toNat - 1).2 (.inl (show s < 0 by omega)))
    go_enter Try.func80, Try.ntmps80
    go_wp2_with fail
    go_ret
    exact ⟨ret_bool (by rw [hf.out]; try simp [h1]), rfl⟩

theorem areSets_any (a : Option Addr) (xs : List Int) (cap : Nat) (n : Int) (w : World) (hx : Rd w a xs) (h0' : 0 ≤ n) (h1' : n ≤ 10) :
    Calls Try.prog 84 #[.slice a xs.length cap, .int .i64 n] w fun e w' => e = .returned (.bool (allB xs 0 (2 ^ n.toNat - 1))) ∧ w = w' := by
  have hlen := hx.len
  go_enter Try.func84, Try.ntmps84
  go_wp2_with fail
  go_loop [9] (fun i => ∃ k : Nat, k ≤ xs.length ∧ i = .int .i64 k ∧ allB (xs.take k) 0 (2 ^ n.toNat - 1) = true) (fun i => xs.length - (intOf i).toNat)
  case atStart => exact ⟨0, Nat.zero_le _, rfl, rfl⟩
  case round =>
    obtain ⟨k, hk, rfl, hall⟩ := hrel
    by_cases hlt : k < xs.length
    · obtain ⟨b, off, rfl, hbl, hc⟩ := hx.cell k hlt
      cases hin : inB (nth xs k) 0 (2 ^ n.toNat - 1)
      · have hf := Lib.hid (allB_false hlt hin)
        go_wp2_with (go_at_call 80; refine (isSet_any _ _ _ h0' h1').mono ?_; rintro e w' ⟨rfl, rfl⟩)
        go_ret
        exact ⟨ret_bool hf.out.symm, rfl⟩
      · go_wp2_with (go_at_call 80; refine (isSet_any _ _ _ h0' h1').mono ?_; rintro e w' ⟨rfl, rfl⟩)
        go_round
        case rel => exact ⟨k + 1, by omega, by go_num, by rw [allB_take _ _ _ _ hlt, hall, hin]; rfl⟩
        case measure => simp [intOf]; omega
    · go_wp2_with fail
      go_ret
      exact ⟨ret_bool (by rw [← hall, List.take_of_length_le (by omega)]), rfl⟩

theorem iIsRelation_any (n : Int) (a : Option Addr) (xs : List Int) (cap : Nat) (w : World) (_hn : -9223372036854775808 ≤ n ∧ n ≤ 9223372036854775807) (hx : Rd w a xs) :
    Calls Try.prog 35 #[.agg #[.int .i64 n, .slice a xs.length cap]] w fun e w' => e = .returned (.bool (relB n xs)) ∧ Below w.heap.size w w' := by
  have hx1 := hx.alloc (.cells #[.int .i64 n, .slice a xs.length cap] 26)
  have hlen := hx.len
  by_cases h0 : 0 ≤ n
  · by_cases h1 : n ≤ 10
    · cases h2 : ((xs.length : Int) == n)
      · have HR : Hid (relB n xs = false) := by
          have : ¬ (xs.length : Int) = n := by simpa using h2
          simp [Hid, relB, this]
        go_enter Try.func35, Try.ntmps35
        go_wp2_with fail
        go_ret
        exact ⟨ret_bool HR.out.symm, (by repeat (first | exact Below.refl _ _ | assumption | refine Below.alloc ?_ (by first | exact Nat.le_refl _ | (simp only [World.size_alloc, World.size_setCell, World.size_drew]; omega) | omega) _ | refine Below.setCell ?_ (by first | exact Nat.le_refl _ | (simp only [World.size_alloc, World.size_setCell, World.size_drew]; omega) | omega) _ | refine Below.drew ?_))⟩
      · have HR : Hid (relB n xs = allB xs 0 (2 ^ n.toNat - 1)) := by
          have : (xs.length : Int) = n := by simpa using h2
          simp [Hid, relB, inB, h0, h1, this]
        go_enter Try.func35, Try.ntmps35
        go_wp2_with fail
        refine (areSets_any _ _ _ _ _ hx1 h0 h1).mono ?_
        rintro e w' ⟨rfl, rfl⟩
        go_wp2_with fail
        go_ret
        exact ⟨ret_bool HR.out.symm, (by repeat (first | exact Below.refl _ _ | assumption | refine Below.alloc ?_ (by first | exact Nat.le_refl _ | (simp only [World.size_alloc, World.size_setCell, World.size_drew]; omega) | omega) _ | refine Below.setCell ?_ (by first | exact Nat.le_refl _ | (simp only [World.size_alloc, World.size_setCell, World.size_drew]; omega) | omega) _ | refine Below.drew ?_))⟩
    · have HR : Hid (relB n xs = false) := by simp [Hid, relB, inB]; omega
      go_enter Try.func35, Try.ntmps35
      go_wp2_with fail
      go_ret
      exact ⟨ret_bool HR.out.symm, (by repeat (first | exact Below.refl _ _ | assumption | refine Below.alloc ?_ (by first | exact Nat.le_refl _ | (simp only [World.size_alloc, World.size_setCell, World.size_drew]; omega) | omega) _ | refine Below.setCell ?_ (by first | exact Nat.le_refl _ | (simp only [World.size_alloc, World.size_setCell, World.size_drew]; omega) | omega) _ | refine Below.drew ?_))⟩
  · have HR : Hid (relB n xs = false) := by simp [Hid, relB, inB]; omega
    go_enter Try.func35, Try.ntmps35
    go_wp2_with fail
    go_ret
    exact ⟨ret_bool HR.out.symm, (by repeat (first | exact Below.refl _ _ | assumption | refine Below.alloc ?_ (by first | exact Nat.le_refl _ | (simp only [World.size_alloc, World.size_setCell, World.size_drew]; omega) | omega) _ | refine Below.setCell ?_ (by first | exact Nat.le_refl _ | (simp only [World.size_alloc, World.size_setCell, World.size_drew]; omega) | omega) _ | refine Below.drew ?_))⟩

theorem iIsOrder_any (n : Int) (a : Option Addr) (xs : List Int) (cap : Nat) (w : World) (hn : -9223372036854775808 ≤ n ∧ n ≤ 9223372036854775807) (hx : Rd w a xs) :
    Calls Try.prog 15 #[.agg #[.int .i64 n, .slice a xs.length cap]] w fun e w' => e = .returned (.bool (ordB n xs)) ∧ Below w.heap.size w w' := by
  have hx1 := hx.alloc (.cells #[.int .i64 n, .slice a xs.length cap] 26)
  have hlen := hx.len
  cases hr : relB n xs
  · have HR : Hid (ordB n xs = false) := by simp [Hid, ordB, hr]
    go_enter Try.func15, Try.ntmps15
    go_wp2_with fail
    refine (iIsRelation_any _ _ _ _ _ hn hx1).mono ?_
    rintro e w1 ⟨rfl, hb1⟩
    go_wp2_with fail
    go_ret
    exact ⟨ret_bool HR.out.symm, Below.trans (by repeat (first | exact Below.refl _ _ | assumption | refine Below.alloc ?_ (by first | exact Nat.le_refl _ | (simp only [World.size_alloc, World.size_setCell, World.size_drew]; omega) | omega) _ | refine Below.setCell ?_ (by first | exact Nat.le_refl _ | (simp only [World.size_alloc, World.size_setCell, World.size_drew]; omega) | omega) _ | refine Below.drew ?_)) (hb1.mono (by first | (simp only [World.size_alloc, World.size_setCell, World.size_drew]; omega) | omega))⟩
  · have hp := relB_p hr
    go_enter Try.func15, Try.ntmps15
    go_wp2_with fail
    refine (iIsRelation_any _ _ _ _ _ hn hx1).mono ?_
    rintro e w1 ⟨rfl, hb1⟩
    have B1 := (Box2.new w _ _ _).below hb1
    have ⟨z1, c1, d1⟩ := B1
    have bw1 : Below w.heap.size w w1 := Below.trans (by repeat (first | exact Below.refl _ _ | assumption | refine Below.alloc ?_ (by first | exact Nat.le_refl _ | (simp only [World.size_alloc, World.size_setCell, World.size_drew]; omega) | omega) _ | refine Below.setCell ?_ (by first | exact Nat.le_refl _ | (simp only [World.size_alloc, World.size_setCell, World.size_drew]; omega) | omega) _ | refine Below.drew ?_)) (hb1.mono (by first | (simp only [World.size_alloc, World.size_setCell, World.size_drew]; omega) | omega))
    have HR := Lib.hid hr
    clear hb1
    go_wp2_with fail
    clear hr
    go_loopw [11] (fun i wr => ∃ k : Nat, k ≤ xs.length ∧ i = .int .i64 k ∧ (∀ j, j < k → okAtB xs j = true) ∧ Below w1.heap.size w1 wr) (fun i _ => xs.length - (intOf i).toNat)
    case atStart => exact ⟨0, Nat.zero_le _, rfl, fun j hj => by omega, Below.refl _ _⟩
    case round =>
      obtain ⟨k, hk, rfl, hall, hb⟩ := hrel
      have ⟨zr, cr, dr⟩ := B1.below hb
      have bwr := bw1.trans (hb.mono bw1.size)
      have HA := Lib.hid hall
      clear hall c1 d1
      by_cases hlt : k < xs.length
      · obtain ⟨b, off, rfl, hbl, hc⟩ := (hx.below bwr).cell k hlt
        have hpk := hp.pos k hlt
        have hsk := hp.small k hlt
        have hsk' : nth xs k ≤ 9223372036854775807 := by omega
        cases hin : hasB (nth xs k) k
        · have hab := aboveTo_lt hp (nth xs k) xs.length (Nat.le_refl _)
          have hsub := sub_i (a := (aboveTo xs (nth xs k) xs.length : Nat)) (b := nth xs k) (by omega) (by omega) hpk (by omega)
          have hok := okAtB_above hin
          rw [Int.toNat_natCast] at hsub
          cases hok2 : okAtB xs k
          · rw [hok2] at hok
            have hne : (bits BinOp.andNot IntKind.i64 ((aboveTo xs (nth xs k) xs.length : Nat) : Int) (nth xs k) != 0) = true := by
              rw [hsub]
              simpa using hok.symm
            have HN := Lib.hid (ordB_no (n := n) hlt hok2)
            clear hok2 hok hsub hab
            go_wp2_with fail
            refine (hasElement_any _ _ _ hpk hsk' (by omega)).mono ?_
            rintro e w' ⟨rfl, rfl⟩
            go_wp2_with fail
            refine (aboveAny_any _ _ _ _ _ _ (hx.below bwr) hp hpk hsk').mono ?_
            rintro e w2 ⟨rfl, hb2⟩
            go_wp2_with fail
            go_ret
            exact ⟨ret_bool HN.out.symm, bwr.trans (hb2.mono bwr.size)⟩
          · rw [hok2] at hok
            have hne : (bits BinOp.andNot IntKind.i64 ((aboveTo xs (nth xs k) xs.length : Nat) : Int) (nth xs k) != 0) = false := by
              rw [hsub]
              simpa using hok.symm
            have HN := Lib.hid hok2
            clear hok2 hok hsub hab
            go_wp2_with fail
            refine (hasElement_any _ _ _ hpk hsk' (by omega)).mono ?_
            rintro e w' ⟨rfl, rfl⟩
            go_wp2_with fail
            refine (aboveAny_any _ _ _ _ _ _ (hx.below bwr) hp hpk hsk').mono ?_
            rintro e w2 ⟨rfl, hb2⟩
            go_wp2_with fail
            go_roundw
            case rel =>
              refine ⟨k + 1, by omega, by go_num, fun j hj => ?_, hb.trans (hb2.mono hb.size)⟩
              by_cases e : j = k
              · rw [e]; exact HN.out
              · exact HA.out j (by omega)
            case measure => simp [intOf]; omega
        · have HN := Lib.hid (ordB_no (n := n) hlt (okAtB_has hin))
          go_wp2_with fail
          refine (hasElement_any _ _ _ hpk hsk' (by omega)).mono ?_
          rintro e w' ⟨rfl, rfl⟩
          go_wp2_with fail
          go_ret
          exact ⟨ret_bool HN.out.symm, bwr⟩
      · obtain rfl : k = xs.length := by omega
        go_wp2_with fail
        go_ret
        exact ⟨ret_bool (ordB_iff.2 ⟨HR.out, HA.out⟩).symm, bwr⟩

theorem isElement_any (n : Int) (a : Option Addr) (len cap : Nat) (i : Int) (w : World) :
    Calls Try.prog 62 #[.agg #[.int .i64 n, .slice a len cap], .int .i64 i] w fun e w' => e = .returned (.bool (elemB i n)) ∧ Below w.heap.size w w' := by
  by_cases h0 : 0 ≤ i
  · by_cases h1 : i < n
    · have H := Lib.hid (elemB_iff.2 ⟨h0, h1⟩)
      go_enter Try.func62, Try.ntmps62
      go_wp2
      go_ret
      exact ⟨ret_bool (by rw [H.out]; try simp [h1]), (by repeat (first | exact Below.refl _ _ | assumption | refine Below.alloc ?_ (by first | exact Nat.le_refl _ | (simp only [World.size_alloc, World.size_setCell, World.size_drew]; omega) | omega) _ | refine Below.setCell ?_ (by first | exact Nat.le_refl _ | (simp only [World.size_alloc, World.size_setCell, World.size_drew]; omega) | omega) _ | refine Below.drew ?_))⟩
    · have H := Lib.hid (elemB_no.2 (.inr (show n ≤ i by omega)))
      go_enter Try.func62, Try.ntmps62
      go_wp2
      go_ret
      exact ⟨ret_bool (by rw [H.out]; try simp [h1]), (by repeat (first | exact Below.refl _ _ | assumption | refine Below.alloc ?_ (by first | exact Nat.le_refl _ | (simp only [World.size_alloc, World.size_setCell, World.size_drew]; omega) | omega) _ | refine Below.setCell ?_ (by first | exact Nat.le_refl _ | (simp only [World.size_alloc, World.size_setCell, World.size_drew]; omega) | omega) _ | refine Below.drew ?_))⟩
  · have H := Lib.hid (elemB_no (n := n).2 (.inl (show i < 0 by omega)))
    go_enter Try.func62, Try.ntmps62
    go_wp2
    go_ret
    exact ⟨ret_bool (by rw [H.out]), (by repeat (first | exact Below.refl _ _ | assumption | refine Below.alloc ?_ (by first | exact Nat.le_refl _ | (simp only [World.size_alloc, World.size_setCell, World.size_drew]; omega) | omega) _ | refine Below.setCell ?_ (by first | exact Nat.le_refl _ | (simp only [World.size_alloc, World.size_setCell, World.size_drew]; omega) | omega) _ | refine Below.drew ?_))⟩

/-- has a list only elements, and none twice? -/
def difB (n : Int) (es : List Int) : Bool := (List.range es.length).all (okN n es)
theorem difB_iff {n : Int} {es : List Int} : difB n es = true ↔ ∀ k, k < es.length → okN n es k = true := by simp [difB]
theorem difB_no {n : Int} {es : List Int} {k : Nat} (hk : k < es.length) (h : okN n es k = false) : difB n es = false := by
  rw [← Bool.not_eq_true, difB_iff]
  intro h2
  rw [h2 k hk] at h
  cases h
theorem areDiff_any (n : Int) (a : Option Addr) (len cap : Nat) (a1 : Option Addr) (es : List Int) (cap1 : Nat) (w : World) (h0 : 0 ≤ n) (h1 : n ≤ 10) (hx : Rd w a1 es) :
    Calls Try.prog 107 #[.agg #[.int .i64 n, .slice a len cap], .slice a1 es.length cap1] w fun e w' => e = .returned (.bool (difB n es)) ∧ Below w.heap.size w w' := by
  have hlen := hx.len
  go_enter Try.func107, Try.ntmps107
  go_wp2_with fail
  go_loopw [5, 10] (fun s i wr => ∃ k : Nat, k ≤ es.length ∧ i = .int .i64 k ∧ s = .int .i64 (setTo es k) ∧ (∀ j, j < k → okN n es j = true) ∧ Below w.heap.size w wr ∧ Box2 wr w.heap.size (.int .i64 n) (.slice a len cap)) (fun _ i _ => es.length - (intOf i).toNat)
  case atStart => exact ⟨0, Nat.zero_le _, rfl, rfl, fun j hj => by omega, (by repeat (first | exact Below.refl _ _ | assumption | refine Below.alloc ?_ (by first | exact Nat.le_refl _ | (simp only [World.size_alloc, World.size_setCell, World.size_drew]; omega) | omega) _ | refine Below.setCell ?_ (by first | exact Nat.le_refl _ | (simp only [World.size_alloc, World.size_setCell, World.size_drew]; omega) | omega) _ | refine Below.drew ?_)), Box2.new _ _ _ _⟩
  case round =>
    obtain ⟨k, hk, rfl, rfl, hall, hb, hB⟩ := hrel
    have HA := Lib.hid hall
    have ⟨zB, cB, dB⟩ := hB
    by_cases hlt : k < es.length
    · obtain ⟨b, off, rfl, hbl, hc⟩ := (hx.below hb).cell k hlt
      cases hel : elemB (nth es k) n
      · have HN := Lib.hid (difB_no (n := n) hlt (show okN n es k = false by simp [okN, hel]))
        clear hall
        go_wp2_with fail
        refine (isElement_any _ _ _ _ _ _).mono ?_
        rintro e w2 ⟨rfl, hb2⟩
        go_wp2_with fail
        go_ret
        exact ⟨ret_bool HN.out.symm, hb.trans (hb2.mono hb.size)⟩
      · have ⟨e0, e1⟩ := elemB_iff.1 hel
        have hs : setTo es k < 2 ^ 10 := setTo_lt k (fun i hi => by have := okN_elem (hall i hi); omega)
        have hs0 : (0 : Int) ≤ ((setTo es k : Nat) : Int) := by omega
        have hs1 : ((setTo es k : Nat) : Int) ≤ 9223372036854775807 := by omega
        cases hin : hasB ((setTo es k : Nat) : Int) (nth es k)
        · have hyes : okN n es k = true := by
            simp only [okN, hel, Bool.true_and]
            simp only [hasB, Int.toNat_natCast] at hin
            rw [hin]; rfl
          have HN := Lib.hid hyes
          obtain ⟨x, hx'⟩ := Int.eq_ofNat_of_zero_le e0
          have hor := or_bit (b := setTo es k) (k := x) (by omega) (by omega)
          have HO := Lib.hid hor
          have HX := Lib.hid hx'
          rw [hx'] at hc hel hin
          have hx0 : (0 : Int) ≤ (x : Int) := by omega
          have hx1 : (x : Int) < 10 := by omega
          clear hall hor hs hx' hyes e0 e1
          go_wp2_with fail
          refine (isElement_any _ _ _ _ _ _).mono ?_
          rintro e w2 ⟨rfl, hb2⟩
          go_wp2_with fail
          refine (hasElement_any _ _ _ hs0 hs1 hx0).mono ?_
          rintro e w' ⟨rfl, rfl⟩
          go_wp2_with fail
          go_roundw
          case rel =>
            refine ⟨k + 1, by omega, by go_num, val_int (by rw [HO.out, setTo, HX.out]; rfl), fun j hj => ?_, hb.trans (hb2.mono hb.size), hB.below hb2⟩
            by_cases e : j = k
            · rw [e]; exact HN.out
            · exact HA.out j (by omega)
          case measure => simp [intOf]; omega
        · have hno : okN n es k = false := by
            simp only [okN, hel, Bool.true_and]
            simp only [hasB, Int.toNat_natCast] at hin
            rw [hin]; rfl
          have HN := Lib.hid (difB_no (n := n) hlt hno)
          clear hall hs hno
          go_wp2_with fail
          refine (isElement_any _ _ _ _ _ _).mono ?_
          rintro e w2 ⟨rfl, hb2⟩
          go_wp2_with fail
          refine (hasElement_any _ _ _ hs0 hs1 e0).mono ?_
          rintro e w' ⟨rfl, rfl⟩
          go_wp2_with fail
          go_ret
          exact ⟨ret_bool HN.out.symm, hb.trans (hb2.mono hb.size)⟩
    · obtain rfl : k = es.length := by omega
      have HN := Lib.hid (difB_iff.2 HA.out)
      clear hall
      go_wp2_with fail
      go_ret
      exact ⟨ret_bool HN.out.symm, hb⟩

theorem hasEachOnce_any (n : Int) (a : Option Addr) (len cap : Nat) (a1 : Option Addr) (es : List Int) (cap1 : Nat) (w : World) (h0 : 0 ≤ n) (h1 : n ≤ 10) (hx : Rd w a1 es) :
    Calls Try.prog 75 #[.agg #[.int .i64 n, .slice a len cap], .slice a1 es.length cap1] w fun e w' => e = .returned (.bool (permB n es)) ∧ Below w.heap.size w w' := by
  by_cases hl : (es.length : Int) = n
  · have hl' : ((es.length : Int) == n) = true := by simp [hl]
    have HN : Hid (permB n es = difB n es) := by simp [Hid, permB, difB, hl]
    clear hl
    go_enter Try.func75, Try.ntmps75
    go_wp2_with fail
    refine (areDiff_any _ _ _ _ _ _ _ _ h0 h1 (hx.below (by repeat (first | exact Below.refl _ _ | assumption | refine Below.alloc ?_ (by first | exact Nat.le_refl _ | (simp only [World.size_alloc, World.size_setCell, World.size_drew]; omega) | omega) _ | refine Below.setCell ?_ (by first | exact Nat.le_refl _ | (simp only [World.size_alloc, World.size_setCell, World.size_drew]; omega) | omega) _ | refine Below.drew ?_)))).mono ?_
    rintro e w2 ⟨rfl, hb2⟩
    go_wp2_with fail
    go_ret
    exact ⟨ret_bool HN.out.symm, Below.trans (by repeat (first | exact Below.refl _ _ | assumption | refine Below.alloc ?_ (by first | exact Nat.le_refl _ | (simp only [World.size_alloc, World.size_setCell, World.size_drew]; omega) | omega) _ | refine Below.setCell ?_ (by first | exact Nat.le_refl _ | (simp only [World.size_alloc, World.size_setCell, World.size_drew]; omega) | omega) _ | refine Below.drew ?_)) (hb2.mono (by first | (simp only [World.size_alloc, World.size_setCell, World.size_drew]; omega) | omega))⟩
  · have hl' : ((es.length : Int) == n) = false := by simp [hl]
    have HN : Hid (permB n es = false) := by simp [Hid, permB, hl]
    clear hl
    go_enter Try.func75, Try.ntmps75
    go_wp2_with fail
    go_ret
    exact ⟨ret_bool HN.out.symm, (by repeat (first | exact Below.refl _ _ | assumption | refine Below.alloc ?_ (by first | exact Nat.le_refl _ | (simp only [World.size_alloc, World.size_setCell, World.size_drew]; omega) | omega) _ | refine Below.setCell ?_ (by first | exact Nat.le_refl _ | (simp only [World.size_alloc, World.size_setCell, World.size_drew]; omega) | omega) _ | refine Below.drew ?_))⟩

theorem belowSet_any (n : Int) (a : Option Addr) (xs : List Int) (cap : Nat) (i : Int) (w : World) (hx : Rd w a xs) (hr : RelP n xs) (hi : 0 ≤ i) :
    Calls Try.prog 63 #[.agg #[.int .i64 n, .slice a xs.length cap], .int .i64 i] w fun e w' => e = .returned (.int .i64 (belowTo xs i xs.length)) ∧ Below w.heap.size w w' := by
  have hx1 := hx.alloc (.cells #[.int .i64 n, .slice a xs.length cap] 26)
  have hn : xs.length ≤ 10 := by have := hr.len; have := hr.n1; omega
  go_enter Try.func63, Try.ntmps63
  go_wp2_with fail
  go_loop [5, 11] (fun s i' => ∃ k : Nat, k ≤ xs.length ∧ i' = .int .i64 k ∧ s = .int .i64 (belowTo xs i k)) (fun _ i => xs.length - (intOf i).toNat)
  case atStart => exact ⟨0, Nat.zero_le _, rfl, rfl⟩
  case round =>
    obtain ⟨k, hk, rfl, rfl⟩ := hrel
    by_cases hlt : k < xs.length
    · obtain ⟨b, off, rfl, hbl, hc⟩ := hx1.cell k hlt
      obtain ⟨b', off', e', hbl', hc'⟩ := hx.cell k hlt
      simp only [Option.some.injEq, Addr.mk.injEq, and_true] at e'
      obtain ⟨rfl, rfl⟩ := e'
      have hpk := hr.pos k hlt
      have hsk : nth xs k ≤ 9223372036854775807 := by have := hr.small k hlt; omega
      have hbs := belowTo_small xs i (k := k) (by omega)
      have hor := Lib.hid (or_bit (b := belowTo xs i k) (k := k) (by omega) (by omega))
      clear hbs
      cases hin : hasB (nth xs k) i
      · go_wp2_with (go_at_call 60; refine (hasElement_any _ _ _ hpk hsk hi).mono ?_; rintro e w' ⟨rfl, rfl⟩)
        go_round
        case rel => exact ⟨k + 1, by omega, by go_num, by simp [belowTo, hin]⟩
        case measure => simp [intOf]; omega
      · go_wp2_with (go_at_call 60; refine (hasElement_any _ _ _ hpk hsk hi).mono ?_; rintro e w' ⟨rfl, rfl⟩)
        go_round
        case rel => exact ⟨k + 1, by omega, by go_num, val_int (by rw [hor.out]; simp [belowTo, hin])⟩
        case measure => simp [intOf]; omega
    · obtain rfl : k = xs.length := by omega
      go_wp2_with fail
      go_ret
      exact ⟨rfl, (by repeat (first | exact Below.refl _ _ | assumption | refine Below.alloc ?_ (by first | exact Nat.le_refl _ | (simp only [World.size_alloc, World.size_setCell, World.size_drew]; omega) | omega) _ | refine Below.setCell ?_ (by first | exact Nat.le_refl _ | (simp only [World.size_alloc, World.size_setCell, World.size_drew]; omega) | omega) _ | refine Below.drew ?_))⟩

theorem iIsExtension_any (n : Int) (a : Option Addr) (xs : List Int) (cap : Nat) (a1 : Option Addr) (es : List Int) (cap1 : Nat) (w : World) (hn : -9223372036854775808 ≤ n ∧ n ≤ 9223372036854775807) (hx : Rd w a xs) (hy : Rd w a1 es) (_hcap : es.length ≤ cap1) :
    Calls Try.prog 26 #[.agg #[.int .i64 n, .slice a xs.length cap], .slice a1 es.length cap1] w fun e w' => e = .returned (.tuple #[.bool (ordB n xs && extB xs es n), .bool (ordB n xs)]) ∧ Below w.heap.size w w' := by
  have hx1 := hx.alloc (.cells #[.int .i64 n, .slice a xs.length cap] 26)
  cases hr : ordB n xs
  · go_enter Try.func26, Try.ntmps26
    go_wp2_with fail
    refine (iIsOrder_any _ _ _ _ _ hn hx1).mono ?_
    rw [hr]
    rintro e w1 ⟨rfl, hb1⟩
    have bw1 : Below w.heap.size w w1 := Below.trans (by repeat (first | exact Below.refl _ _ | assumption | refine Below.alloc ?_ (by first | exact Nat.le_refl _ | (simp only [World.size_alloc, World.size_setCell, World.size_drew]; omega) | omega) _ | refine Below.setCell ?_ (by first | exact Nat.le_refl _ | (simp only [World.size_alloc, World.size_setCell, World.size_drew]; omega) | omega) _ | refine Below.drew ?_)) (hb1.mono (by first | (simp only [World.size_alloc, World.size_setCell, World.size_drew]; omega) | omega))
    go_wp2_with fail
    refine bodyPost_ret (v := .tuple #[.bool false, .bool false]) (by simp [results, Try.results26, go_sem]) rfl ?_
    exact ⟨rfl, bw1⟩
  · have hp := ord_rel hr
    have hn0 := hp.n0
    have hn1 := hp.n1
    have hxl : xs.length ≤ 10 := by have := hp.len; omega
    have HR := Lib.hid hr
    clear hr
    cases hpm : permB n es
    · have HE : Hid (extB xs es n = false) := by simp [Hid, extB, hpm]
      have HP := Lib.hid hpm
      clear hpm
      go_enter Try.func26, Try.ntmps26
      go_wp2_with fail
      refine (iIsOrder_any _ _ _ _ _ hn hx1).mono ?_
      rw [HR.out]
      rintro e w1 ⟨rfl, hb1⟩
      have A1 : Box2 w1 w.heap.size (.int .i64 n) (.slice a xs.length cap) := (Box2.new w _ _ _).below hb1
      have bw1 : Below w.heap.size w w1 := Below.trans (by repeat (first | exact Below.refl _ _ | assumption | refine Below.alloc ?_ (by first | exact Nat.le_refl _ | (simp only [World.size_alloc, World.size_setCell, World.size_drew]; omega) | omega) _ | refine Below.setCell ?_ (by first | exact Nat.le_refl _ | (simp only [World.size_alloc, World.size_setCell, World.size_drew]; omega) | omega) _ | refine Below.drew ?_)) (hb1.mono (by first | (simp only [World.size_alloc, World.size_setCell, World.size_drew]; omega) | omega))
      have ⟨zB, cB, dB⟩ := A1
      clear hb1
      go_wp2_with fail
      refine (hasEachOnce_any _ _ _ _ _ _ _ _ hn0 hn1 (hy.below bw1)).mono ?_
      rw [HP.out]
      rintro e w2 ⟨rfl, hb2⟩
      go_wp2_with fail
      refine bodyPost_ret (v := .tuple #[.bool false, .bool true]) (by simp [results, Try.results26, go_sem]) rfl ?_
      exact ⟨by rw [HE.out]; rfl, bw1.trans (hb2.mono bw1.size)⟩
    · have HE : Hid (extB xs es n = extN xs es) := by simp [Hid, extB, hpm]
      have hpe := permB_iff.1 hpm
      have hel : ∀ k, k < es.length → 0 ≤ nth es k ∧ nth es k < 10 := fun k hk => by have := okN_elem (hpe.2 k hk); omega
      have hel10 : es.length ≤ 10 := by have := hpe.1; omega
      have HP := Lib.hid hpm
      clear hpe hpm
      go_enter Try.func26, Try.ntmps26
      go_wp2_with fail
      refine (iIsOrder_any _ _ _ _ _ hn hx1).mono ?_
      rw [HR.out]
      rintro e w1 ⟨rfl, hb1⟩
      have A1 : Box2 w1 w.heap.size (.int .i64 n) (.slice a xs.length cap) := (Box2.new w _ _ _).below hb1
      have bw1 : Below w.heap.size w w1 := Below.trans (by repeat (first | exact Below.refl _ _ | assumption | refine Below.alloc ?_ (by first | exact Nat.le_refl _ | (simp only [World.size_alloc, World.size_setCell, World.size_drew]; omega) | omega) _ | refine Below.setCell ?_ (by first | exact Nat.le_refl _ | (simp only [World.size_alloc, World.size_setCell, World.size_drew]; omega) | omega) _ | refine Below.drew ?_)) (hb1.mono (by first | (simp only [World.size_alloc, World.size_setCell, World.size_drew]; omega) | omega))
      have ⟨zB, cB, dB⟩ := A1
      clear hb1
      go_wp2_with fail
      refine (hasEachOnce_any _ _ _ _ _ _ _ _ hn0 hn1 (hy.below bw1)).mono ?_
      rw [HP.out]
      rintro e w2 ⟨rfl, hb2⟩
      have A2 := A1.below hb2
      have bw2 := bw1.trans (hb2.mono bw1.size)
      clear zB cB dB A1 hb2 bw1
      go_wp2_with fail
      go_loopw [6, 18] (fun p i wr => ∃ k : Nat, k ≤ es.length ∧ i = .int .i64 k ∧ p = .int .i64 (setTo es k) ∧ (∀ j, j < k → sub (belowTo xs (nth es j) xs.length) (setTo es j) = 0) ∧ Below w.heap.size w wr ∧ Box2 wr w.heap.size (.int .i64 n) (.slice a xs.length cap)) (fun _ i _ => es.length - (intOf i).toNat)
      case atStart => exact ⟨0, Nat.zero_le _, rfl, rfl, fun j hj => by omega, bw2, A2⟩
      case round =>
        obtain ⟨k, hk, rfl, rfl, hall, hb, hB⟩ := hrel
        have HA := Lib.hid hall
        have ⟨zB, cB, dB⟩ := hB
        clear hall
        by_cases hlt : k < es.length
        · have hyr := hy.below hb
          obtain ⟨b, off, rfl, hbl, hc⟩ := hyr.cell k hlt
          have ⟨e0, e1⟩ := hel k hlt
          have hbt := belowTo_small xs (nth es k) hxl
          have hst : setTo es k < 2 ^ 10 := setTo_lt k (fun i hi => by have := hel i (by omega); omega)
          have hsb := sub_nat (belowTo xs (nth es k) xs.length) (setTo es k) (by omega) (by omega)
          obtain ⟨x, hx'⟩ := Int.eq_ofNat_of_zero_le e0
          have hor := or_bit (b := setTo es k) (k := x) (by omega) (by omega)
          have HO := Lib.hid hor
          have HX := Lib.hid hx'
          rw [hx'] at hc
          have hx0 : (0 : Int) ≤ (x : Int) := by omega
          have hx1' : (x : Int) < 10 := by omega
          by_cases hz : sub (belowTo xs (nth es k) xs.length) (setTo es k) = 0
          · have hd : (bits .andNot .i64 ((belowTo xs (x : Int) xs.length : Nat) : Int) ((setTo es k : Nat) : Int) != 0) = false := by rw [← hx', hsb, hz]; rfl
            have HZ := Lib.hid hz
            clear hz hsb hbt hst hor hx' e0 e1
            go_wp2_with fail
            refine (belowSet_any _ _ _ _ _ _ (hx.below hb) hp hx0).mono ?_
            rintro e w3 ⟨rfl, hb3⟩
            have B3 := hB.below hb3
            go_wp2_with fail
            go_roundw
            case rel =>
              refine ⟨k + 1, by omega, by go_num, val_int (by rw [HO.out, setTo, HX.out]; rfl), fun j hj => ?_, hb.trans (hb3.mono hb.size), B3⟩
              by_cases e : j = k
              · rw [e]; exact HZ.out
              · exact HA.out j (by omega)
            case measure => simp [intOf]; omega
          · have hd : (bits .andNot .i64 ((belowTo xs (x : Int) xs.length : Nat) : Int) ((setTo es k : Nat) : Int) != 0) = true := by
              rw [← hx', hsb, bne_iff_ne]
              omega
            have HN := Lib.hid (extN_no hlt hz)
            clear hz hsb hbt hst hor hx' e0 e1
            go_wp2_with fail
            refine (belowSet_any _ _ _ _ _ _ (hx.below hb) hp hx0).mono ?_
            rintro e w3 ⟨rfl, hb3⟩
            go_wp2_with fail
            refine bodyPost_ret (v := .tuple #[.bool false, .bool true]) (by simp [results, Try.results26, go_sem]) rfl ?_
            exact ⟨by rw [HE.out, HN.out]; rfl, hb.trans (hb3.mono hb.size)⟩
        · obtain rfl : k = es.length := by omega
          have HN := Lib.hid (extN_iff.2 HA.out)
          go_wp2_with fail
          refine bodyPost_ret (v := .tuple #[.bool true, .bool true]) (by simp [results, Try.results26, go_sem]) rfl ?_
          exact ⟨by rw [HE.out, HN.out]; rfl, hb⟩

theorem sIsExtension_any (n : Int) (a : Option Addr) (xs : List Int) (cap : Nat) (a1 : Option Addr) (es : List Int) (cap1 : Nat) (w : World) (_hn : -9223372036854775808 ≤ n ∧ n ≤ 9223372036854775807) (hx : Rd w a xs) (hy : Rd w a1 es) (hcap : es.length ≤ cap1) :
    Calls Try.prog 27 #[.agg #[.int .i64 n, .slice a xs.length cap], .slice a1 es.length cap1] w fun e w' => e = .returned (.tuple #[.bool (ordB n xs && extB xs es n), .bool (ordB n xs)]) ∧ Below w.heap.size w w' := by
  have hx1 := hx.alloc (.cells #[.int .i64 n, .slice a xs.length cap] 26)
  cases hr : ordB n xs
  · go_enter Try.func27, Try.ntmps27
    go_wp2_with fail
    refine (orGood_any _ _ _ _ _ hx1).mono ?_
    rw [hr]
    rintro e w1 ⟨rfl, hb1⟩
    have bw1 : Below w.heap.size w w1 := Below.trans (by repeat (first | exact Below.refl _ _ | assumption | refine Below.alloc ?_ (by first | exact Nat.le_refl _ | (simp only [World.size_alloc, World.size_setCell, World.size_drew]; omega) | omega) _ | refine Below.setCell ?_ (by first | exact Nat.le_refl _ | (simp only [World.size_alloc, World.size_setCell, World.size_drew]; omega) | omega) _ | refine Below.drew ?_)) (hb1.mono (by first | (simp only [World.size_alloc, World.size_setCell, World.size_drew]; omega) | omega))
    go_wp2_with fail
    refine bodyPost_ret (v := .tuple #[.bool false, .bool false]) (by simp [results, Try.results27, go_sem]) rfl ?_
    exact ⟨rfl, bw1⟩
  · have hp := ord_rel hr
    have HR := Lib.hid hr
    clear hr
    go_enter Try.func27, Try.ntmps27
    go_wp2_with fail
    refine (orGood_any _ _ _ _ _ hx1).mono ?_
    rw [HR.out]
    rintro e w1 ⟨rfl, hb1⟩
    have A1 : Box2 w1 w.heap.size (.int .i64 n) (.slice a xs.length cap) := (Box2.new w _ _ _).below hb1
    have bw1 : Below w.heap.size w w1 := Below.trans (by repeat (first | exact Below.refl _ _ | assumption | refine Below.alloc ?_ (by first | exact Nat.le_refl _ | (simp only [World.size_alloc, World.size_setCell, World.size_drew]; omega) | omega) _ | refine Below.setCell ?_ (by first | exact Nat.le_refl _ | (simp only [World.size_alloc, World.size_setCell, World.size_drew]; omega) | omega) _ | refine Below.drew ?_)) (hb1.mono (by first | (simp only [World.size_alloc, World.size_setCell, World.size_drew]; omega) | omega))
    have ⟨zB, cB, dB⟩ := A1
    clear hb1
    go_wp2_with fail
    refine (orExtends_any _ _ _ _ _ _ _ _ (hx.below bw1) hp (hy.below bw1) hcap).mono ?_
    rintro e w2 ⟨rfl, hb2⟩
    go_wp2_with fail
    refine bodyPost_ret (v := .tuple #[.bool (extB xs es n), .bool true]) (by simp [results, Try.results27, go_sem]) rfl ?_
    exact ⟨rfl, bw1.trans (hb2.mono bw1.size)⟩

theorem below_grown_none {w w' : World} {B : Nat} (h : w.grownBy w' none) (hB : B ≤ w.heap.size) : Below B w w' :=
  below_of_grown (v := .slice none 0 0) h (fun b e => by simp [Value.ownBlock] at e) hB

theorem belowSets_any (n : Int) (a : Option Addr) (xs : List Int) (cap : Nat) (w : World) (hx : Rd w a xs) (hr : RelP n xs) :
    Calls Try.prog 57 #[.agg #[.int .i64 n, .slice a xs.length cap]] w fun e w' => ∃ a' cap', e = .returned (.slice a' xs.length cap') ∧ OwnI w' w.heap.size (.slice a' xs.length cap') (belows xs xs.length) ∧ Below w.heap.size w w' := by
  obtain ⟨i0, hi, hz0, hz1, hz2⟩ := info_parts infoInt
  have hn0 := hr.n0
  have hn1 := hr.n1
  obtain rfl : n = (xs.length : Int) := hr.len.symm
  have hn : xs.length ≤ 10 := by omega
  go_enter Try.func57, Try.ntmps57
  go_wp2_with (at_make; refine wpList_make_full _ rfl (.tmp 6) (.tmp 6) 24 rfl (w.heap.size + 1) 3 i0 (.int .i64 0) 1 Try.underlying24 hi hz0 hz1 .i64 .i64 _ _ xs.length rfl rfl rfl rfl (by rw [hz2]; omega) (by unfold maxLen; omega) (by simp) ?_; intro w1 hown hgrow)
  have hb0 : Below w.heap.size w w1 := ((Below.refl _ _).alloc (Nat.le_refl _) _).grown hgrow (by simp) (fun k h => by cases h)
  have hown0 := made_ints (fun i => ((belowTo xs i xs.length : Nat) : Int)) hown
  have B1 : Box2 w1 w.heap.size (.int .i64 (xs.length : Int)) (.slice a xs.length cap) := (Box2.new w _ _ _).kept hgrow (by simp)
  have hx1 : Rd w1 a xs := hx.below hb0
  clear hown hgrow
  simp only [World.size_alloc] at *
  have hz : w.heap.size + 1 < w1.heap.size := by
    have := (World.ownsRow.lt hown0 (w.heap.size + 1) rfl).2
    omega
  go_wp2_with fail
  go_loopw [10] (fun i wr => ∃ k : Nat, k ≤ xs.length ∧ i = .int .i64 k ∧ wr.ownsRow (w.heap.size + 1) 3 1 (.slice (some ⟨w.heap.size + 1, 0, none⟩) xs.length xs.length) xs.length ((fmap (fun i => ((belowTo xs i xs.length : Nat) : Int)) k ++ List.replicate (xs.length - k) (0:Int)).map (Value.int .i64)) ∧ Below w.heap.size w wr ∧ Box2 wr w.heap.size (.int .i64 (xs.length : Int)) (.slice a xs.length cap)) (fun i _ => xs.length - (intOf i).toNat)
  case atStart => exact ⟨0, Nat.zero_le _, rfl, hown0, hb0, B1⟩
  case round =>
    obtain ⟨k, hk, rfl, hown, hb, hB⟩ := hrel
    have ⟨zr, cr, dr⟩ := hB
    by_cases hlt : k < xs.length
    · go_wp2_with fail
      refine (belowSet_any _ _ _ _ _ _ (hx.below hb) hr (by omega)).mono ?_
      rintro e w2 ⟨rfl, hb2⟩
      have hown2 : w2.ownsRow (w.heap.size + 1) 3 1 (.slice (some ⟨w.heap.size + 1, 0, none⟩) xs.length xs.length) xs.length _ := World.ownsRow.kept hown (below_grown hb2 (Nat.le_refl _) none) (.inr (by simp [Value.ownBlock]))
      have hst := World.ownsRow.stored hown2 k (.int .i64 ((belowTo xs k xs.length : Nat) : Int))
      rw [fill_step (fun i => ((belowTo xs i xs.length : Nat) : Int)) xs.length k hlt] at hst
      have hcc := World.ownsRow.cellAt hown2 k (by omega)
      have hfr := World.ownsRow.frozenAt hown2 k
      have hcc' : ∃ u, w2.cell? ⟨w.heap.size + 1, k, none⟩ = some u := by
        rw [hcc]
        exact ⟨_, List.getElem?_eq_getElem (by simp [fmap_len]; omega)⟩
      obtain ⟨u, hu⟩ := hcc'
      have hB2 := hB.below hb2
      have hB3 := hB2.kept hst.2 (by simp)
      have hbw := hb.trans (hb2.mono hb.size)
      have Hst := Lib.hid hst
      clear hst hcc hown hown2 hb2
      go_wp2_with fail
      go_roundw
      case rel => exact ⟨k + 1, by omega, by go_num, Hst.out.1, hbw.setCell (by simp) _, hB3⟩
      case measure => simp [intOf]; omega
    · obtain rfl : k = xs.length := by omega
      go_wp2_with fail
      go_ret
      rw [fill_end] at hown
      refine ⟨_, _, rfl, OwnI.mono (B := w.heap.size + 1) ?_ (by omega), hb⟩
      show World.ownsRow _ _ _ _ _ _ _
      rw [belows_len]
      exact hown

theorem iFirst_any (n : Int) (a : Option Addr) (xs : List Int) (cap : Nat) (w : World) (hn : -9223372036854775808 ≤ n ∧ n ≤ 9223372036854775807) (hx : Rd w a xs) :
    Calls Try.prog 28 #[.agg #[.int .i64 n, .slice a xs.length cap]] w fun e w' => ∃ a' cap', e = .returned (.tuple #[.slice a' (fstL n xs).length cap', .bool (ordB n xs)]) ∧ OwnI w' w.heap.size (.slice a' (fstL n xs).length cap') (fstL n xs) ∧ Below w.heap.size w w' := by
  have hx1 := hx.alloc (.cells #[.int .i64 n, .slice a xs.length cap] 26)
  obtain ⟨i0, hi, hz0, hz1, hz2⟩ := info_parts infoInt
  cases hr : ordB n xs
  · have H2 : Hid (fstL n xs = []) := by simp [Hid, fstL, hr]
    go_enter Try.func28, Try.ntmps28
    go_wp2_with fail
    refine (iIsOrder_any _ _ _ _ _ hn hx1).mono ?_
    rw [hr]
    rintro e w1 ⟨rfl, hb1⟩
    have bw1 : Below w.heap.size w w1 := Below.trans (by repeat (first | exact Below.refl _ _ | assumption | refine Below.alloc ?_ (by first | exact Nat.le_refl _ | (simp only [World.size_alloc, World.size_setCell, World.size_drew]; omega) | omega) _ | refine Below.setCell ?_ (by first | exact Nat.le_refl _ | (simp only [World.size_alloc, World.size_setCell, World.size_drew]; omega) | omega) _ | refine Below.drew ?_)) (hb1.mono (by first | (simp only [World.size_alloc, World.size_setCell, World.size_drew]; omega) | omega))
    go_wp2_with fail
    refine bodyPost_ret (v := .tuple #[.slice none 0 0, .bool false]) (by simp [results, Try.results28, go_sem]) rfl ?_
    exact ⟨none, 0, by rw [H2.out]; rfl, by rw [H2.out]; exact OwnI.nil _ _, bw1⟩
  · have hp := ord_rel hr
    have hl10 : xs.length ≤ 10 := by have := hp.len; have := hp.n1; omega
    have hn0 := hp.n0
    have H2 : Hid (fstL n xs = firsts xs xs.length) := by simp [Hid, fstL, hr]
    have HR := Lib.hid hr
    obtain rfl : n = (xs.length : Int) := hp.len.symm
    clear hr
    go_enter Try.func28, Try.ntmps28
    go_wp2_with fail
    refine (iIsOrder_any _ _ _ _ _ hn hx1).mono ?_
    rw [HR.out]
    rintro e w1 ⟨rfl, hb1⟩
    have A1 : Box2 w1 w.heap.size (.int .i64 (xs.length : Int)) (.slice a xs.length cap) := (Box2.new w _ _ _).below hb1
    have bw1 : Below w.heap.size w w1 := Below.trans (by repeat (first | exact Below.refl _ _ | assumption | refine Below.alloc ?_ (by first | exact Nat.le_refl _ | (simp only [World.size_alloc, World.size_setCell, World.size_drew]; omega) | omega) _ | refine Below.setCell ?_ (by first | exact Nat.le_refl _ | (simp only [World.size_alloc, World.size_setCell, World.size_drew]; omega) | omega) _ | refine Below.drew ?_)) (hb1.mono (by first | (simp only [World.size_alloc, World.size_setCell, World.size_drew]; omega) | omega))
    have ⟨zA, cA, dA⟩ := A1
    clear hb1
    go_wp2_with fail
    refine (belowSets_any _ _ _ _ _ (hx.below bw1) hp).mono ?_
    rintro e w2 ⟨a2, cap2, rfl, ho2, hb2⟩
    have A2 := A1.below hb2
    have bw2 := bw1.trans (hb2.mono bw1.size)
    have UB := ho2.cut (Nat.le_refl _)
    clear zA cA dA A1 hb2
    have ⟨zA, cA, dA⟩ := A2
    go_wp2_with (at_make; refine wpList_make_own _ rfl _ _ 24 rfl w2.heap.size 3 i0 (.int .i64 0) 1 Try.underlying24 hi hz0 hz1 .i64 .i64 _ xs.length rfl rfl rfl (by rw [hz2]; omega) (by unfold maxLen; omega) (Nat.le_refl _) ?_; intro w3 hown hgrow; have A3 := A2.kept hgrow (by simp); have ⟨zA3, cA3, dA3⟩ := A3; have ho3 := ho2.kept hgrow (Classical.em _))
    have bw3 : Below w.heap.size w w3 := bw2.trans (below_grown_none hgrow bw2.size)
    have hU2 : w2.heap.size ≤ w3.heap.size := hgrow.size
    clear cA dA hgrow
    have HB : OwnI w3 w1.heap.size (.slice a2 xs.length cap2) (belows xs xs.length) := ho3
    clear ho3 ho2
    have hown3 : OwnI w3 w2.heap.size (.slice (some ⟨w2.heap.size, 0, none⟩) 0 xs.length) (firsts xs 0) := hown
    clear hown
    go_wp2_with fail
    go_loopw [5, 6, 18] (fun l p i wr => ∃ (k : Nat) (v : Value), k ≤ xs.length ∧ i = .int .i64 k ∧ p = .int .i64 (fset xs k) ∧ l = v ∧ OwnI wr w2.heap.size v (firsts xs k) ∧ OwnI wr w1.heap.size (.slice a2 xs.length cap2) (belows xs xs.length) ∧ Below w.heap.size w wr ∧ w2.heap.size ≤ wr.heap.size ∧ Box2 wr w.heap.size (.int .i64 (xs.length : Int)) (.slice a xs.length cap)) (fun _ _ i _ => xs.length - (intOf i).toNat)
    case atStart => exact ⟨0, _, Nat.zero_le _, rfl, rfl, rfl, hown3, HB, bw3, hU2, A3⟩
    case round =>
      obtain ⟨k, v, hk, rfl, rfl, rfl, hown, hbel, hb, hsz, hA⟩ := hrel
      have ⟨zr, cr, dr⟩ := hA
      obtain ⟨av, capv, rfl⟩ := hown.form
      simp only [firsts_len] at hown ⊢
      by_cases hlt : k < xs.length
      · have ⟨hc, hs⟩ := fset_card HR.out k (by omega)
        have ⟨hx0, hx1, hx2⟩ := nxt_ok (first_ex HR.out (S := fset xs k) (by omega))
        have hs10 : fset xs k < 2 ^ 10 := Nat.lt_of_lt_of_le hs (Nat.pow_le_pow_right (by omega) hl10)
        have s0 : (0 : Int) ≤ ((fset xs k : Nat) : Int) := by omega
        have s1 : ((fset xs k : Nat) : Int) ≤ 9223372036854775807 := by omega
        have HX1 := Lib.hid hx1
        have HX2 := Lib.hid hx2
        have HS10 := Lib.hid hs10
        clear hc hs hx1 hx2 hs10
        go_wp2_with fail
        go_loop [7] (fun m' => ∃ m : Nat, m ≤ nxt xs (fset xs k) ∧ m' = .int .i64 m) (fun m' => nxt xs (fset xs k) - (intOf m').toNat)
        case atStart => exact ⟨0, Nat.zero_le _, rfl⟩
        case round =>
          obtain ⟨m, hm, rfl⟩ := hrel
          have hml : m < xs.length := by omega
          obtain ⟨b, off, rfl, hbl, hc⟩ := hbel.rd.cell m (by rw [belows_len]; exact hml)
          have hbm : nth (belows xs xs.length) m = ((belowTo xs (m : Int) xs.length : Nat) : Int) := fmap_nth _ hml
          rw [hbm] at hc
          have hsb := sub_nat (belowTo xs (m : Int) xs.length) (fset xs k) (by have := belowTo_small xs (m : Int) hl10; omega) (by have := HS10.out; omega)
          have m0 : (0 : Int) ≤ (m : Int) := by omega
          have m1 : (m : Int) < (xs.length : Int) := by omega
          have m2 : (m : Int) < 10 := by omega
          cases hin : hasB ((fset xs k : Nat) : Int) (m : Int)
          · by_cases hz : sub (belowTo xs (m : Int) xs.length) (fset xs k) = 0
            · have hd : (bits .andNot .i64 ((belowTo xs (m : Int) xs.length : Nat) : Int) ((fset xs k : Nat) : Int) != 0) = false := by rw [hsb, hz]; rfl
              have hmx : nxt xs (fset xs k) = m := nxt_eq hml (firstOk_iff.2 ⟨hin, hz⟩) (fun j hj => HX2.out j (by omega))
              have HMX := Lib.hid hmx
              have hor := or_bit (b := fset xs k) (k := m) (by have := HS10.out; omega) (by omega)
              have HO := Lib.hid hor
              clear hz hsb hmx hor hbm
              go_wp2_with fail
              refine (hasElement_any _ _ _ s0 s1 m0).mono ?_
              rintro e w' ⟨rfl, rfl⟩
              go_wp2_with (at_builtin; refine wpList_append_own _ rfl _ _ 24 rfl w2.heap.size 3 i0 (.int .i64 0) 1 8 Try.underlying24 hi hz0 hz1 hz2 rfl (by decide) (.slice av k capv) k ((firsts xs k).map (Value.int .i64)) rfl (by have h := hown.alloc (.cells #[.int .i64 (m : Int)] 3); unfold OwnI at h; rw [firsts_len] at h; exact h) ⟨wr.heap.size, 0, none⟩ 1 1 [.int .i64 (m : Int)] rfl rfl (cell_one_new _ _ _) (by intro u hu; simp at hu; subst hu; rfl) (by unfold maxLen; omega) (by omega) (by simp; omega) ?_)
              intro v' w5 hown5 hgrow _
              have hg2 := grown_alloc_set hgrow
              have o5 : OwnI w5 w2.heap.size v' (firsts xs (k + 1)) := by
                unfold OwnI
                rw [firsts_len, show firsts xs (k + 1) = firsts xs k ++ [((m : Nat) : Int)] from (by show firsts xs k ++ [((nxt xs (fset xs k) : Nat) : Int)] = _; rw [HMX.out]), List.map_append]
                exact hown5
              have hU := hown.lt
              have A5 := hA.kept hg2 (ne_own (fun c e => by have := hU c e; have := zA; omega))
              have B5 := hbel.kept hg2 (own_ne (fun c e e2 => by have h1 := UB c e; have h2 := hU c e2; omega))
              have bw5 := hb.trans (below_of_grown hg2 (fun c e => by have := hU c e; have := bw2.size; omega) hb.size)
              have hz5 : w2.heap.size ≤ w5.heap.size := Nat.le_trans hsz hg2.size
              clear hown5 hgrow hU
              go_wp2_with fail
              go_roundw
              case rel => exact ⟨k + 1, _, by omega, by go_num, val_int (by rw [HO.out, fset_next, HMX.out]), rfl, o5, B5, bw5, hz5, A5⟩
              case measure => simp [intOf]; omega
            · have hd : (bits .andNot .i64 ((belowTo xs (m : Int) xs.length : Nat) : Int) ((fset xs k : Nat) : Int) != 0) = true := by rw [hsb, bne_iff_ne]; omega
              have hmx : m < nxt xs (fset xs k) := by
                rcases Nat.lt_or_ge m (nxt xs (fset xs k)) with h | h
                · exact h
                · have e : m = nxt xs (fset xs k) := by omega
                  exact absurd (firstOk_iff.1 (e ▸ HX1.out)).2 hz
              clear hz hsb hbm
              go_wp2_with fail
              refine (hasElement_any _ _ _ s0 s1 m0).mono ?_
              rintro e w' ⟨rfl, rfl⟩
              go_wp2_with fail
              go_round
              case rel => exact ⟨m + 1, by omega, by go_num⟩
              case measure => simp [intOf]; omega
          · have hmx : m < nxt xs (fset xs k) := by
              rcases Nat.lt_or_ge m (nxt xs (fset xs k)) with h | h
              · exact h
              · have e : m = nxt xs (fset xs k) := by omega
                have h2 := (firstOk_iff.1 (e ▸ HX1.out)).1
                have h3 : (fset xs k).testBit m = true := hin
                rw [h2] at h3
                cases h3
            clear hsb hbm
            go_wp2_with fail
            refine (hasElement_any _ _ _ s0 s1 m0).mono ?_
            rintro e w' ⟨rfl, rfl⟩
            go_wp2_with fail
            go_round
            case rel => exact ⟨m + 1, by omega, by go_num⟩
            case measure => simp [intOf]; omega
      · obtain rfl : k = xs.length := by omega
        go_wp2_with fail
        refine bodyPost_ret (v := .tuple #[.slice av xs.length capv, .bool true]) (by simp [results, Try.results28, go_sem]) rfl ?_
        exact ⟨av, capv, by rw [H2.out, firsts_len], by rw [H2.out, firsts_len]; exact hown.mono bw2.size, hb⟩

set_option maxRecDepth 100000 in
set_option maxHeartbeats 4000000 in
theorem walk (a0 : Option Addr) (n0 cap0 : Nat) (a1 : Option Addr) (n1 cap1 : Nat) (w : World) (hR0 : RdB w a0 n0) (hl0 : n0 ≤ 9223372036854775807) (hR1 : RdB w a1 n1) (hl1 : n1 ≤ 9223372036854775807) :
    Calls Try.prog 5 #[.slice a0 n0 cap0, .slice a1 n1 cap1] w fun e w' => e = .returned (.bool true) ∧ Below w.heap.size w w' := by
  go_enter Try.func5, Try.ntmps5
  go_wp2_with fail
  refine (big_any _ _ _ _ _ _ _ hl0 hl1).mono ?_
  rintro e w' ⟨he, rfl⟩
  rcases he with rfl | ⟨rfl, hb0, hb1⟩
  · go_wp2_with fail
    go_ret
    exact ⟨rfl, (by repeat (first | exact Below.refl _ _ | assumption | refine Below.alloc ?_ (by first | exact Nat.le_refl _ | (simp only [World.size_alloc, World.size_setCell, World.size_drew]; omega) | omega) _ | refine Below.setCell ?_ (by first | exact Nat.le_refl _ | (simp only [World.size_alloc, World.size_setCell, World.size_drew]; omega) | omega) _ | refine Below.drew ?_))⟩
  · go_wp2_with fail
    refine (drIsExt_any _ _ _ _ hR0 hb0).mono ?_
    rintro e w1 ⟨n, a, cap, xs, a3, cap3, es, rfl, ho, hl, hn0, hn1, hx, ho3, hl3, hx3, hb⟩
    have hs1 := hb.size
    have hnn : -9223372036854775808 ≤ n ∧ n ≤ 9223372036854775807 := by omega
    have hcp := ho3.capLe
    have ba : Below w1.heap.size w1 (w1.alloc (.cells #[.int .i64 n, .slice a xs.length cap] 26)) := (by repeat (first | exact Below.refl _ _ | assumption | refine Below.alloc ?_ (by first | exact Nat.le_refl _ | (simp only [World.size_alloc, World.size_setCell, World.size_drew]; omega) | omega) _ | refine Below.setCell ?_ (by first | exact Nat.le_refl _ | (simp only [World.size_alloc, World.size_setCell, World.size_drew]; omega) | omega) _ | refine Below.drew ?_))
    have HO := Lib.hid (Box2.new w1 (.int .i64 n) (.slice a xs.length cap) 26)
    have HB2 := Lib.hid (hb.trans (ba.mono hb.size))
    have HR2 := Lib.hid (ho.rd.below ba)
    have HE2 := Lib.hid (ho3.rd.below ba)
    obtain ⟨w2, hw2⟩ : ∃ x : World, x = w1.alloc (.cells #[.int .i64 n, .slice a xs.length cap] 26) := ⟨_, rfl⟩
    have HW2 := Lib.hid hw2
    rw [← hw2] at HO HB2 HR2 HE2
    have ⟨zO2, cO2, dO2⟩ := HO.out
    clear hw2 ba hx hx3 ho ho3 hb hR0 hR1 hl0 hl1 hb0 hb1
    have HT2 := Lib.hid (Below.refl w2.heap.size w2)
    have HA : Hid (∀ W, Below w2.heap.size w2 W → Calls Try.prog 26 #[.agg #[.int .i64 n, .slice a xs.length cap], .slice a3 es.length cap3] W fun e w' => e = .returned (.tuple #[.bool (ordB n xs && extB xs es n), .bool (ordB n xs)]) ∧ Below W.heap.size W w') := fun W hW => iIsExtension_any n a xs cap a3 es cap3 W hnn (HR2.out.below hW) (HE2.out.below hW) hcp
    have HC : Hid (∀ W, Below w2.heap.size w2 W → Calls Try.prog 27 #[.agg #[.int .i64 n, .slice a xs.length cap], .slice a3 es.length cap3] W fun e w' => e = .returned (.tuple #[.bool (ordB n xs && extB xs es n), .bool (ordB n xs)]) ∧ Below W.heap.size W w') := fun W hW => sIsExtension_any n a xs cap a3 es cap3 W hnn (HR2.out.below hW) (HE2.out.below hW) hcp
    have HF := Lib.hid (fun W (hW : Below w2.heap.size w2 W) => iFirst_any n a xs cap W hnn (HR2.out.below hW))
    have HOB : Hid ((ordB n xs && extB xs es n) = true → ordB n xs = true ∧ extB xs es n = true) := by intro h; simpa using h
    generalize (ordB n xs && extB xs es n) = E at HA HC HOB
    obtain ⟨O, hO⟩ : ∃ O, O = ordB n xs := ⟨_, rfl⟩
    rw [← hO] at HA HC HF HOB
    have HOO := Lib.hid hO
    have h1 : (O != O) = false := by simp
    have h2 : (E != E) = false := by simp
    clear hO
    go_wp2_with fail
    rw [← HW2.out]
    refine (HA.out _ HT2.out).mono ?_
    rintro e w3 ⟨rfl, hb3⟩
    have HT3 := Lib.hid (HT2.out.trans (hb3.mono HT2.out.size))
    have ⟨zO3, cO3, dO3⟩ := HO.out.below HT3.out
    clear hb3
    clear zO2 cO2 dO2
    go_wp2_with fail
    refine (HC.out _ HT3.out).mono ?_
    rintro e w4 ⟨rfl, hb4⟩
    have HT4 := Lib.hid (HT3.out.trans (hb4.mono HT3.out.size))
    have ⟨zO4, cO4, dO4⟩ := HO.out.below HT4.out
    clear hb4
    clear zO3 cO3 dO3
    cases hE : E
    · go_wp2_with fail
      go_ret
      exact ⟨rfl, HB2.out.trans (HT4.out.mono HB2.out.size)⟩
    · have ⟨e1, e2⟩ := HOB.out hE
      subst e1
      have hor := HOO.out.symm
      have HH := Lib.hid (And.intro hor e2)
      have hp : fstL n xs = firsts xs xs.length := by rw [fstL, hor, if_pos rfl]
      have hr := ord_rel hor
      have hpe : permB n es = true := by simp only [extB, Bool.and_eq_true] at e2; exact e2.1
      obtain rfl : n = (xs.length : Int) := hr.len.symm
      have hel : es.length = xs.length := by have := (permB_iff.1 hpe).1; omega
      have hfl : (firsts xs xs.length).length = xs.length := firsts_len _ _
      have HLE : Hid (∀ i, i < es.length → (∀ j, j < i → nth es j = nth (firsts xs xs.length) j) → nth (firsts xs xs.length) i ≤ nth es i) := fun i hi hs => ext_least hor e2 (by omega) hs
      have HLT : Hid (∀ j k : Nat, j < k → k < es.length → nth es k ≠ nth es j ∧ hasB (nth xs (nth es k).toNat) (nth es j) = false) := fun j k hj hk => ext_later hor e2 hj hk
      have HEL : Hid (∀ k, k < es.length → 0 ≤ nth es k ∧ nth es k < (xs.length : Int)) := fun k hk => okN_elem ((permB_iff.1 hpe).2 k hk)
      have HRP := Lib.hid hr
      have HELE := Lib.hid hel
      rw [hp, hfl] at HF
      clear hor e2 hp hr hpe hel hE HOO HOB hfl
      go_wp2_with fail
      refine (HF.out _ HT4.out).mono ?_
      rintro e w5 ⟨a5, c5, rfl, ho5, hb5⟩
      have HT5 := Lib.hid (HT4.out.trans (hb5.mono HT4.out.size))
      have hq := pLess_no a3 a5 es (firsts xs xs.length) cap3 c5 w5 (HE2.out.below HT5.out) ho5.rd (by rw [HELE.out]; exact (firsts_len _ _).symm) HLE.out
      rw [firsts_len] at hq
      have HQ := Lib.hid hq
      have hne : ((es.length : Int) != (xs.length : Int)) = false := by rw [HELE.out]; simp
      clear hb5 hq ho5 HA HC HF
      have ⟨zO5, cO5, dO5⟩ := HO.out.below HT5.out
      clear zO4 cO4 dO4
      go_wp2_with fail
      refine HQ.out.mono ?_
      rintro e w6 ⟨rfl, hb6⟩
      have HT6 := Lib.hid (HT5.out.trans (hb6.mono HT5.out.size))
      have ⟨zO6, cO6, dO6⟩ := HO.out.below HT6.out
      clear hb6 zO5 cO5 dO5
      go_wp2_with fail
      go_loopw [68] (fun i wr => ∃ k : Nat, k ≤ es.length ∧ i = .int .i64 k ∧ Below w2.heap.size w2 wr) (fun i _ => es.length - (intOf i).toNat)
      case atStart => exact ⟨0, Nat.zero_le _, rfl, HT6.out⟩
      case round =>
        obtain ⟨k, hk, rfl, hb⟩ := hrel
        by_cases hlt : k < es.length
        · have k1 : (k : Int) < (es.length : Int) := by omega
          obtain ⟨b7, off7, rfl, hbl7, hc7⟩ := (HE2.out.below hb).cell k hlt
          have HT7 := Lib.hid hb
          have hkc : (k : Int) ≤ (cap3 : Int) := by omega
          have hk63 : (k : Int) ≤ 9223372036854775807 := by have := HE2.out.len; omega
          obtain ⟨x, hx⟩ : ∃ x, x = nth es k := ⟨_, rfl⟩
          have HX := Lib.hid hx
          rw [← hx] at hc7
          have hx0 : 0 ≤ x ∧ x < (xs.length : Int) := by rw [hx]; exact HEL.out k hlt
          clear hx hb
          go_wp2_with fail
          go_loopw [77] (fun i wr => ∃ j : Nat, j ≤ k ∧ i = .int .i64 j ∧ Below w2.heap.size w2 wr) (fun i _ => k - (intOf i).toNat)
          case atStart => exact ⟨0, Nat.zero_le _, rfl, HT7.out⟩
          case round =>
            obtain ⟨j, hj, rfl, hb⟩ := hrel
            by_cases hjt : j < k
            · have j1 : (j : Int) < (k : Int) := by omega
              obtain ⟨b8, off8, e8, hbl8, hc8⟩ := (HE2.out.below hb).cell j (by omega)
              simp only [Option.some.injEq, Addr.mk.injEq, and_true] at e8
              obtain ⟨rfl, rfl⟩ := e8
              obtain ⟨b9, off9, rfl, hbl9, hc9⟩ := (HR2.out.below hb).cell x.toNat (by omega)
              have ex : ((x.toNat : Nat) : Int) = x := by omega
              obtain ⟨X, rfl⟩ : ∃ X : Nat, x = (X : Int) := ⟨x.toNat, by omega⟩
              rw [Int.toNat_natCast] at hc9
              obtain ⟨y, hy⟩ : ∃ y, y = nth es j := ⟨_, rfl⟩
              have hlt2 := HLT.out j k hjt hlt
              have hy0 : 0 ≤ y ∧ y < (xs.length : Int) := by rw [hy]; exact HEL.out j (by omega)
              rw [← HX.out, ← hy, Int.toNat_natCast] at hlt2
              rw [← hy] at hc8
              have hxy : ((X : Int) == y) = false := by simpa using hlt2.1
              have hXl : X < xs.length := by omega
              obtain ⟨Z, hZ⟩ : ∃ Z, Z = nth xs X := ⟨_, rfl⟩
              have hz0 : 0 ≤ Z := by rw [hZ]; exact HRP.out.pos X hXl
              have hz1 : Z ≤ 9223372036854775807 := by rw [hZ]; have := HRP.out.small X hXl; omega
              have hzf := hlt2.2
              rw [← hZ] at hc9 hzf
              have HP : Hid (∀ W, Calls Try.prog 18 #[.int .i64 Z, .int .i64 y] W fun e w' => e = .returned (.bool false) ∧ W = w') := fun W => by
                have := pIn_any Z y W hz0 hz1 hy0.1
                rw [hzf] at this
                exact this
              have HT8 := Lib.hid hb
              have ⟨zO8, cO8, dO8⟩ := HO.out.below hb
              clear hb hy hZ hlt2 hzf ex
              go_wp2_with fail
              refine (HP.out _).mono ?_
              rintro e w' ⟨rfl, rfl⟩
              go_wp2_with fail
              go_roundw
              case rel => exact ⟨j + 1, by omega, by go_num, HT8.out⟩
              case measure => simp [intOf]; omega
            · obtain rfl : j = k := by omega
              have HT8 := Lib.hid hb
              clear hb
              go_wp2_with fail
              go_roundw
              case rel => exact ⟨j + 1, by omega, by go_num, HT8.out⟩
              case measure => simp [intOf]; omega
        · obtain rfl : k = es.length := by omega
          go_wp2_with fail
          go_ret
          exact ⟨rfl, HB2.out.trans (hb.mono HB2.out.size)⟩

theorem rd_of_trod {H : Type} {enc : TypeId × Value → H} {W : World} {fuel : Nat} {c : Value} {y : DataW H × List MemPlace}
    (h : DataW.trod enc Try.prog W 0 (fun _ => true) true fuel 24 [c] = some y) : ∃ (a : Option Addr) (xs : List Int) (cap : Nat), c = .slice a xs.length cap ∧ Rd W a xs ∧ ∀ k, k < xs.length → (Lit.int .i64 (nth xs k)).wf = true := by
  rcases Go.ChangeShapes.open_ints Try.underlying24 Try.underlying3 (by kernel_rfl) h with ⟨hcs, _⟩ | ⟨x, len, cap, zs, hcs, _, hl, hm, hz, _, hcell, hwf⟩
  · simp only [List.cons.injEq, and_true] at hcs
    exact ⟨none, [], 0, hcs, ⟨by simp, fun k hk => by simp at hk⟩, fun k hk => by simp at hk⟩
  · simp only [List.cons.injEq, and_true] at hcs
    simp only [if_true] at hz
    have hlen : (zs.take len).length = len := by rw [List.length_take]; omega
    have hn : ∀ k, k < len → nth (zs.take len) k = zs.getD k 0 := by
      intro k hk
      simp only [nth, List.getD_eq_getElem?_getD, List.getElem?_take, hk, if_true]
    refine ⟨some x, zs.take len, cap, by rw [hlen]; exact hcs, ⟨by rw [hlen]; unfold maxLen at hm; omega, fun k hk => ?_⟩, fun k hk => ?_⟩
    · rw [hlen] at hk
      obtain ⟨b, off, sp⟩ := x
      have h0 := hcell 0 (by omega)
      have hsp : sp = none := by simpa [Addr.add] using World.cell?_spot h0
      subst hsp
      have hk' := hcell k (by omega)
      rw [Addr.add_lit] at hk'
      exact ⟨b, off, rfl, World.block_lt_of_cell? _ _ h0, by rw [hk', hn k hk]⟩
    · rw [hlen] at hk
      rw [hn k hk]
      have hk2 : k < zs.length := by omega
      exact hwf _ (by rw [List.getD_eq_getElem?_getD, List.getElem?_eq_getElem hk2]; exact List.getElem_mem hk2)

theorem own : ownKnob Try.prog.godebug = none := by kernel_rfl
theorem laidOut : laidOutB Try.prog = true := by kernel_rfl
theorem wf_bd {n : Int} (h : (Lit.int .i64 n).wf = true) : -9223372036854775808 ≤ n ∧ n ≤ 9223372036854775807 := by
  simp [Lit.wf, IntKind.min, IntKind.max, IntKind.bits, IntKind.signed] at h
  omega

theorem wf_byte {n : Int} (h : (Lit.int .u8 n).wf = true) : 0 ≤ n ∧ n ≤ 255 := by
  simp [Lit.wf, IntKind.min, IntKind.max, IntKind.bits, IntKind.signed] at h
  omega
/-- a slice of bytes that was handed over -/
theorem rdB_of_trod {H : Type} {enc : TypeId × Value → H} {W : World} {fuel : Nat} {c : Value} {y : DataW H × List MemPlace}
    (h : DataW.trod enc Try.prog W 0 (fun _ => true) true fuel 22 [c] = some y) : ∃ (a : Option Addr) (n cap : Nat), c = .slice a n cap ∧ RdB W a n ∧ n ≤ 9223372036854775807 := by
  rcases Go.ChangeShapes.open_ints Try.underlying22 Try.underlying5 (by kernel_rfl) h with ⟨hcs, _⟩ | ⟨x, len, cap, zs, hcs, _, hl, hm, hz, _, hcell, hwf⟩
  · simp only [List.cons.injEq, and_true] at hcs
    exact ⟨none, 0, 0, hcs, ⟨fun k hk => by omega⟩, by omega⟩
  · simp only [List.cons.injEq, and_true] at hcs
    simp only [if_true] at hz
    refine ⟨some x, len, cap, hcs, ⟨fun k hk => ?_⟩, by unfold maxLen at hm; omega⟩
    obtain ⟨b, off, sp⟩ := x
    have h0 := hcell 0 (by omega)
    have hsp : sp = none := by simpa [Addr.add] using World.cell?_spot h0
    subst hsp
    have hk' := hcell k (by omega)
    rw [Addr.add_lit] at hk'
    have hk2 : k < zs.length := by omega
    have hw := hwf _ (show zs.getD k 0 ∈ zs by rw [List.getD_eq_getElem?_getD, List.getElem?_eq_getElem hk2]; exact List.getElem_mem hk2)
    refine ⟨b, off, rfl, World.block_lt_of_cell? _ _ h0, zs.getD k 0, hk', ?_⟩
    exact wf_byte hw

open Go.ChangeShapes Go.WideShapes Go.ChangeAt Go.RowKit in
set_option maxRecDepth 100000 in
theorem lifted (os : Os) (started : os.Started) (H : Type) (enc : TypeId × Value → H) :
    ReturnsInHanded {} Try.checked os 5 .any (Rows.fnExtensionsAcceptedSpec.pre6 enc Try.prog Try.f5 Rows.fnExtensionsAcceptedRow.domain false) (Rows.fnExtensionsAcceptedSpec.post enc Try.prog Try.f5 false true false false) := by
  refine returnsInHanded_of_change (C := Try.checked) own started (by kernel_rfl) Try.func5
    (ChangeSpec.witness6 (enc := enc) (C := Try.checked) false ⟨#[], #[.slice none 0 0, .slice none 0 0], []⟩ 8 (by kernel_rfl) (by kernel_rfl) (by kernel_rfl) (by kernel_rfl)) ?_
  intro W base args ds gs before hval0 hW hcnd _
  have hval : ∀ (j : Nat) t v, Try.f5.params[j]? = some t → args[j]? = some v → Value.okWide Try.prog W .any base t v := hval0
  have hW' := hW
  obtain ⟨p, q, hA0, hV, rfl, hfz, hnd⟩ := hW
  have hA : DataW.TrodAll enc Try.prog W 0 (fun _ => true) true Try.f5.params.toList args.toList ds p := hA0
  rw [Try.params5] at hA hval
  obtain ⟨v0, vs0, d0, ds0, p0, q0, hargs, rfl, rfl, h0, r0⟩ := trodAll_cons hA
  obtain ⟨v1, vs1, d1, ds1, p1, q1, rfl, rfl, rfl, h1, r1⟩ := trodAll_cons r0
  obtain ⟨rfl, rfl, rfl⟩ := trodAll_nil r1
  obtain rfl : args = #[v0, v1] := by cases args; simp_all
  obtain ⟨rfl, rfl⟩ := trodVars_none hV
  have lt0 : ∀ x ∈ p0, x.block < W.heap.size := by obtain ⟨m, hm⟩ := h0; exact DataW.trod_lt m _ _ _ hm
  have lt1 : ∀ x ∈ p1, x.block < W.heap.size := by obtain ⟨m, hm⟩ := h1; exact DataW.trod_lt m _ _ _ hm
  obtain ⟨a0, len0, cap0, rfl⟩ := okWide_slice Try.underlying22 (hval 0 22 v0 rfl rfl)
  obtain ⟨a0, n0, cap0, e0, rd0, ln0⟩ := (by obtain ⟨fu, hf⟩ := h0; simp only [Value.cells] at hf; exact rdB_of_trod hf : ∃ (a : Option Addr) (n cap : Nat), Value.slice a0 len0 cap0 = .slice a n cap ∧ RdB W a n ∧ n ≤ 9223372036854775807)
  simp only [Value.slice.injEq] at e0
  obtain ⟨rfl, rfl, rfl⟩ := e0
  obtain ⟨a1, len1, cap1, rfl⟩ := okWide_slice Try.underlying22 (hval 1 22 v1 rfl rfl)
  obtain ⟨a1, n1, cap1, e1, rd1, ln1⟩ := (by obtain ⟨fu, hf⟩ := h1; simp only [Value.cells] at hf; exact rdB_of_trod hf : ∃ (a : Option Addr) (n cap : Nat), Value.slice a1 len1 cap1 = .slice a n cap ∧ RdB W a n ∧ n ≤ 9223372036854775807)
  simp only [Value.slice.injEq] at e1
  obtain ⟨rfl, rfl, rfl⟩ := e1
  clear hA0 hval0
  refine (walk a0 len0 cap0 a1 len1 cap1 W rd0 ln0 rd1 ln1).mono fun e W' ⟨he, bel⟩ => ?_
  subst he
  exact ⟨_, rfl, _, _, _, [], _, [], hW', trodAll_mk1 (shut_bool Try.underlying4 _), (trodAll_cons_mk (Below.trod laidOut (by kernel_rfl) (of_decide_eq_true (by kernel_rfl)) h0 bel lt0) (trodAll_cons_mk (Below.trod laidOut (by kernel_rfl) (of_decide_eq_true (by kernel_rfl)) h1 bel lt1) trodAll_mk0)), rfl, bel.frame _, fun h => by cases h⟩
theorem proved : Rows.FnExtensionsAcceptedSaid :=
  OpenClaim.holds_of_wide 5 Try.f5 rfl rfl rfl rfl rfl rfl rfl ⟨rfl, rfl, rfl, rfl, rfl⟩ rfl rfl rfl rfl rfl (by kernel_rfl) Try.func5 (by kernel_rfl)
    (of_decide_eq_true (by kernel_rfl)) (by unfold Func.isWrapper; first | (rw [if_pos (by decide +kernel)]; kernel_rfl) | (rw [if_neg (by decide +kernel)]; exact ⟨rfl, rfl⟩))
    (fun os started H enc _ => lifted os started H enc)

end Go.Proofs.Ytjddjfckflgojaa.extensionsAccepted
