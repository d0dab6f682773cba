/- PROVED: the law FnPatterns returns true for every input, and each of its arguments reads afterwards as before. No conditions. -/
import Derived.Test.YtkpfjemlldiogaaRows
import Derived.WalkKit
import Derived.WalkSpells
import Derived.WalkLawsBesides
import Derived.Deep.QuietTactic
import Derived.BigQuiet
import Derived.ProofKit
import Derived.OpenShut
import Derived.ShutString
import Derived.ChangeOld
import Derived.Below
import Derived.Lib.SmallJoins
import Derived.Lib.Hide
import Derived.Maps.AppendAt
import Derived.Deep.AppendLies
import Derived.Deep.RegionHeld3
import Derived.Deep.DeepCutAuto
import Derived.StillTail
import Derived.Laws.MakeOwn
import Derived.Laws.OwnMore
import Derived.Deep.RegionLaw
import Derived.Test.YtkpfjemlldiogaaPatternsP1
namespace Go.Proofs.Ytkpfjemlldiogaa.patterns
open Go Go.RowKit
set_option linter.unusedVariables false
set_option linter.unusedSimpArgs false
set_option maxHeartbeats 400000
/-- a relation and a list that a law draws -/
def DrawnON (w : World) (e : Ending) (w' : World) : Prop :=
  ∃ (n : Int) (a : Option Addr) (cap : Nat) (xs : List Int) (b : Option Addr) (cap2 : Nat) (es : List Int), e = .returned (.tuple #[.agg #[.int .i64 n, .slice a xs.length cap], .slice b es.length cap2]) ∧ OwnI w' w.heap.size (.slice a xs.length cap) xs ∧ xs.length ≤ 10 ∧ -1 ≤ n ∧ n ≤ 11 ∧ OwnI w' w.heap.size (.slice b es.length cap2) es ∧ es.length ≤ 12 ∧ Below w.heap.size w w'
set_option maxRecDepth 100000 in
set_option maxHeartbeats 1000000 in
theorem drRename_any (a : Option Addr) (n cap : Nat) (w : World) (hR : RdB w a n) (hn : n ≤ 1048576) :
    Calls Try.prog 15 #[.slice a n cap] w (DrawnON w) := by
  unfold DrawnON
  go_enter Try.func15, Try.ntmps15
  go_wp2_with fail
  have ba : Below w.heap.size w (w.alloc (.cells #[.int .i64 0, .slice none 0 0] 26)) := (by repeat (first | exact Below.refl _ _ | assumption | refine Below.alloc ?_ (by first | exact Nat.le_refl _ | (simp only [World.size_alloc, World.size_setCell, World.size_drew]; omega) | omega) _ | refine Below.setCell ?_ (by first | exact Nat.le_refl _ | (simp only [World.size_alloc, World.size_setCell, World.size_drew]; omega) | omega) _ | refine Below.drew ?_))
  have hcur := cur_new (w := w.alloc (.cells #[.int .i64 0, .slice none 0 0] 26)) (cap := cap) (t := 80) (hR.below ba) hn
  rw [World.size_alloc] at hcur
  refine (anyOrder_any (w.heap.size + 1) 0 6 _ hcur (by omega) (by omega)).mono ?_
  rintro e w1 ⟨n1, a1, c1, xs, rfl, ho1, hl1, h0, h1, hx1, hc1, hd1⟩
  have b1 : Below (w.heap.size + 1) (w.alloc (.cells #[.int .i64 0, .slice none 0 0] 26)) w1 := hd1.of_alloc.bel (Nat.le_refl _) (by simp)
  have hR1 : Var2 w1 w.heap.size (.int .i64 0) (.slice none 0 0) := (Var2.new w (.int .i64 0) (.slice none 0 0) 26).below (by simpa using b1)
  have hs1 : w.heap.size + 2 ≤ w1.heap.size := by have := hd1.size; simpa using this
  have bw1 : Below w.heap.size w w1 := ba.trans (b1.mono (by omega))
  have hO1 := ho1.mono (B' := w.heap.size + 2) (by simp)
  have bb1 : Below w1.heap.size w1 (w1.alloc (.cells #[.int .i64 n1, .slice a1 xs.length c1] 26)) := (by repeat (first | exact Below.refl _ _ | assumption | refine Below.alloc ?_ (by first | exact Nat.le_refl _ | (simp only [World.size_alloc, World.size_setCell, World.size_drew]; omega) | omega) _ | refine Below.setCell ?_ (by first | exact Nat.le_refl _ | (simp only [World.size_alloc, World.size_setCell, World.size_drew]; omega) | omega) _ | refine Below.drew ?_))
  have HB2 := Lib.hid (Var2.new w1 (.int .i64 n1) (.slice a1 xs.length c1) 26)
  have HC2 := Lib.hid (hc1.below bb1)
  have HO2 := Lib.hid (hO1.below bb1 (Nat.le_refl _))
  have HR2 := Lib.hid (hR1.below bb1)
  have HT2 := Lib.hid (bw1.trans (bb1.mono bw1.size))
  obtain ⟨w2, hw2⟩ : ∃ x : World, x = w1.alloc (.cells #[.int .i64 n1, .slice a1 xs.length c1] 26) := ⟨_, rfl⟩
  have HW2 := Lib.hid hw2
  have hs2 : w1.heap.size + 1 = w2.heap.size := by rw [hw2]; simp
  rw [← hw2] at HB2 HC2 HO2 HR2 HT2
  have ⟨⟨zB, cB, dB⟩, fB, gB⟩ := HB2.out
  clear hw2 hx1 hcur hc1 hd1 hR1 bw1 hO1 bb1 ho1 b1
  obtain ⟨q, hq, hq11⟩ : ∃ q : Nat, maxI 0 n1 = (q : Int) ∧ q ≤ 11 := ⟨(maxI 0 n1).toNat, by unfold maxI; split <;> omega, by unfold maxI; split <;> omega⟩
  go_wp2_with fail
  rw [← HW2.out]
  go_region_held3 (fun w' => w'.cell? ⟨w1.heap.size, 0, none⟩ = some (.int .i64 n1) ∧ w'.cell? ⟨w1.heap.size, 1, none⟩ = some (.slice a1 xs.length c1))
    (first | exact ⟨Q5.1.2.1, Q5.1.2.2⟩ | exact ⟨Q4.1.2.1, Q4.1.2.2⟩ | go_keep)
    (first | (go_at_call 71; refine (names_any (w.heap.size + 1) 1000 q _ (HC2.out.below (Joins.below_draws _ _ _)) (by omega) hq11).mono ?_; rintro e w5 ⟨a5, c5, es, rfl, ho5, hl5, hx5, hc5, hd5⟩; have Q4 := (HB2.out.below (Joins.below_draws _ _ _)).drawn hd5 (by omega); have Q5 := (Q4.other (p := ⟨w.heap.size, 0, none⟩) (.int .i64 n1) (show w1.heap.size ≠ w.heap.size by omega)).other (p := ⟨w.heap.size, 1, none⟩) (.slice a1 xs.length c1) (show w1.heap.size ≠ w.heap.size by omega); have R5 := (HR2.out.below (Joins.below_draws _ _ _)).drawn hd5 (by omega); have ⟨⟨zR5, cR5, dR5⟩, fR5, gR5⟩ := R5; have hd6 := ((Drawn.refl w2 (w.heap.size + 1)).below (Joins.below_draws _ _ _)).trans hd5; have ho6 : OwnI w5 w2.heap.size (.slice a5 es.length c5) es := ho5.mono (Joins.below_draws w2.heap.size w2 _).size) | (go_at_call 79; refine (l1Most_any 0 n1 _).mono ?_; rintro e w5 ⟨rfl, rfl⟩; rw [hq]))
  go_wp2_with fail
  have T5 := HT2.out.trans (hd6.bel (B := w.heap.size) (by omega) (by omega))
  have hO5 := HO2.out.drawn hd6 (by omega)
  have R3 := R5.set (.int .i64 n1) (.slice a1 xs.length c1)
  refine bodyPost_ret (v := .tuple #[.agg #[.int .i64 n1, .slice a1 xs.length c1], .slice a5 es.length c5]) (by have ⟨⟨_, q1, q2⟩, _, _⟩ := R3; simp [results, Try.results15, go_sem, q1, q2]) rfl ?_
  exact ⟨n1, a1, c1, xs, a5, c5, es, rfl, ((hO5.setBelow (p := ⟨w.heap.size, 0, none⟩) (show w.heap.size < w.heap.size + 2 by omega) _).setBelow (p := ⟨w.heap.size, 1, none⟩) (show w.heap.size < w.heap.size + 2 by omega) _).mono (by omega), hl1, h0, h1, ((ho6.setBelow (p := ⟨w.heap.size, 0, none⟩) (show w.heap.size < w2.heap.size by omega) _).setBelow (p := ⟨w.heap.size, 1, none⟩) (show w.heap.size < w2.heap.size by omega) _).mono (by omega), hl5, (T5.setCell (p := ⟨w.heap.size, 0, none⟩) (Nat.le_refl _) _).setCell (p := ⟨w.heap.size, 1, none⟩) (Nat.le_refl _) _⟩

def eqL (xs ys : List Int) : Bool := decide (xs = ys)
theorem eqL_self (xs : List Int) : eqL xs xs = true := by simp [eqL]

theorem pSame_any (a b : Option Addr) (xs ys : List Int) (ca cb : Nat) (w : World) (hx : Rd w a xs) (hy : Rd w b ys) :
    Calls Try.prog 13 #[.slice a xs.length ca, .slice b ys.length cb] w fun e w' => e = .returned (.bool (eqL xs ys)) ∧ Below w.heap.size w w' := by
  have hlx := hx.len
  have hly := hy.len
  by_cases hl : xs.length = ys.length
  · have hl' : ((xs.length : Int) != (ys.length : Int)) = false := by simp [hl]
    go_enter Try.func13, Try.ntmps13
    have HL := Lib.hid hl
    clear hl
    go_wp2_with fail
    go_loopw [13] (fun i wr => ∃ k : Nat, k ≤ xs.length ∧ i = .int .i64 k ∧ xs.take k = ys.take k ∧ Below w.heap.size w wr) (fun i _ => xs.length - (intOf i).toNat)
    case atStart => exact ⟨0, Nat.zero_le _, rfl, rfl, Below.refl _ _⟩
    case round =>
      obtain ⟨k, hk, rfl, htk, hb⟩ := hrel
      have HT := Lib.hid htk
      clear htk
      by_cases hlt : k < xs.length
      · have hlt' : k < ys.length := by rw [← HL.out]; exact hlt
        obtain ⟨b1, o1, rfl, hb1, hc1⟩ := (hx.below hb).cell k hlt
        obtain ⟨b2, o2, rfl, hb2, hc2⟩ := (hy.below hb).cell k hlt'
        have k1 : (k : Int) < (xs.length : Int) := by omega
        have k2 : (k : Int) < (ys.length : Int) := by omega
        by_cases he : nth xs k = nth ys k
        · have he' : (nth xs k != nth ys k) = false := by simp [he]
          have HE := Lib.hid he
          clear he
          go_wp2_with fail
          go_quiet (fail)
          go_wp2_with fail
          go_roundw
          case rel =>
            refine ⟨k + 1, by omega, by go_num, ?_, by exact hb.trans (Joins.below_draws _ _ _)⟩
            rw [List.take_succ_eq_append_getElem hlt, List.take_succ_eq_append_getElem hlt', HT.out, ← nth_get, ← nth_get, HE.out]
          case measure => simp [intOf]; omega
        · have he' : (nth xs k != nth ys k) = true := by simp [he]
          have hne : eqL xs ys = false := by
            simp only [eqL, decide_eq_false_iff_not]
            intro e
            subst e
            exact he rfl
          have HN := Lib.hid hne
          clear he hne
          go_wp2_with fail
          go_quiet (fail)
          go_wp2_with fail
          go_ret
          exact ⟨ret_bool HN.out.symm, hb.trans (Joins.below_draws _ _ _)⟩
      · go_wp2_with fail
        go_ret
        refine ⟨ret_bool ?_, hb⟩
        have h1 := HT.out
        rw [List.take_of_length_le (by omega), List.take_of_length_le (by rw [← HL.out]; omega)] at h1
        simp [eqL, h1]
  · have hl' : ((xs.length : Int) != (ys.length : Int)) = true := by simp; omega
    have hne : eqL xs ys = false := by
      simp only [eqL, decide_eq_false_iff_not]
      intro e
      exact hl (by rw [e])
    have HN := Lib.hid hne
    clear hl hne
    go_enter Try.func13, Try.ntmps13
    go_wp2_with fail
    go_ret
    exact ⟨ret_bool HN.out.symm, Below.refl _ _⟩

def eqO (n : Int) (xs : List Int) (m : Int) (ys : List Int) : Bool := decide (n = m) && eqL xs ys
theorem eqO_refl (n : Int) (xs : List Int) : eqO n xs n xs = true := by simp [eqO, eqL]

theorem pSameO_any (n m : Int) (a b : Option Addr) (xs ys : List Int) (ca cb : Nat) (w : World) (hx : Rd w a xs) (hy : Rd w b ys) :
    Calls Try.prog 18 #[.agg #[.int .i64 n, .slice a xs.length ca], .agg #[.int .i64 m, .slice b ys.length cb]] w fun e w' => e = .returned (.bool (eqO n xs m ys)) ∧ Below w.heap.size w w' := by
  by_cases hn : n = m
  · have hn' : (n == m) = true := by simp [hn]
    have HO : Hid (eqO n xs m ys = eqL xs ys) := by simp [Hid, eqO, hn]
    clear hn
    go_enter Try.func18, Try.ntmps18
    go_wp2_with fail
    refine (pSame_any _ _ xs ys _ _ _ (hx.below (by repeat (first | exact Below.refl _ _ | assumption | refine Below.alloc ?_ (by first | exact Nat.le_refl _ | (simp only [World.size_alloc, World.size_setCell, World.size_drew]; omega) | omega) _ | refine Below.setCell ?_ (by first | exact Nat.le_refl _ | (simp only [World.size_alloc, World.size_setCell, World.size_drew]; omega) | omega) _ | refine Below.drew ?_))) (hy.below (by repeat (first | exact Below.refl _ _ | assumption | refine Below.alloc ?_ (by first | exact Nat.le_refl _ | (simp only [World.size_alloc, World.size_setCell, World.size_drew]; omega) | omega) _ | refine Below.setCell ?_ (by first | exact Nat.le_refl _ | (simp only [World.size_alloc, World.size_setCell, World.size_drew]; omega) | omega) _ | refine Below.drew ?_)))).mono ?_
    rintro e w1 ⟨rfl, hb⟩
    go_wp2_with fail
    go_ret
    exact ⟨ret_bool HO.out.symm, Below.trans (by repeat (first | exact Below.refl _ _ | assumption | refine Below.alloc ?_ (by first | exact Nat.le_refl _ | (simp only [World.size_alloc, World.size_setCell, World.size_drew]; omega) | omega) _ | refine Below.setCell ?_ (by first | exact Nat.le_refl _ | (simp only [World.size_alloc, World.size_setCell, World.size_drew]; omega) | omega) _ | refine Below.drew ?_)) (hb.mono (by first | (simp only [World.size_alloc, World.size_setCell, World.size_drew]; omega) | omega))⟩
  · have hn' : (n == m) = false := by simp [hn]
    have HO : Hid (eqO n xs m ys = false) := by simp [Hid, eqO, hn]
    clear hn
    go_enter Try.func18, Try.ntmps18
    go_wp2_with fail
    go_ret
    exact ⟨ret_bool HO.out.symm, (by repeat (first | exact Below.refl _ _ | assumption | refine Below.alloc ?_ (by first | exact Nat.le_refl _ | (simp only [World.size_alloc, World.size_setCell, World.size_drew]; omega) | omega) _ | refine Below.setCell ?_ (by first | exact Nat.le_refl _ | (simp only [World.size_alloc, World.size_setCell, World.size_drew]; omega) | omega) _ | refine Below.drew ?_))⟩

theorem pIn_any (s i : Int) (w : World) (h0 : 0 ≤ s) (h1 : s ≤ 9223372036854775807) (hi : 0 ≤ i) :
    Calls Try.prog 14 #[.int .i64 s, .int .i64 i] w fun e w' => e = .returned (.bool (hasB s i)) ∧ w = w' := by
  have H := Lib.hid (has_mod h0 h1 hi)
  go_enter Try.func14, Try.ntmps14
  go_wp2
  go_ret
  exact ⟨ret_bool H.out, rfl⟩

theorem pIn_is {s i : Int} {b : Bool} (h : ∀ W, Calls Try.prog 14 #[.int .i64 s, .int .i64 i] W fun e w' => e = .returned (.bool b) ∧ W = w') (w : World) (m : Nat) :
    Calls Try.prog 14 #[.int .i64 s, .int .i64 i] (w.drewN m) fun e w' => e = .returned (.bool b) ∧ ∃ k, w' = w.drewN k :=
  Calls.quiet_of_same ((h (w.drewN m)).mono (fun e w' hh => ⟨hh.1, hh.2.symm⟩))

/-- are the two inputs together within the bound? -/
theorem big_any (a b : Option Addr) (n m c1 c2 : Nat) (w : World) (hn : n ≤ 9223372036854775807) (hm : m ≤ 9223372036854775807) :
    Calls Try.prog 9 #[.slice a n c1, .slice b m c2] w fun e w' => ((e = .returned (.bool true)) ∨ (e = .returned (.bool false) ∧ n ≤ 1048576 ∧ m ≤ 1048576)) ∧ w = w' := by
  by_cases h1 : 1048576 < (n : Int)
  · go_enter Try.func9, Try.ntmps9
    go_wp2_with fail
    go_ret
    exact ⟨.inl rfl, rfl⟩
  · by_cases h2 : 1048576 - (n : Int) < (m : Int)
    · go_enter Try.func9, Try.ntmps9
      go_wp2_with fail
      go_ret
      exact ⟨.inl rfl, rfl⟩
    · have h9 : n ≤ 1048576 ∧ m ≤ 1048576 := by omega
      go_enter Try.func9, Try.ntmps9
      go_wp2_with fail
      go_ret
      first | exact ⟨.inr ⟨rfl, h9.1, h9.2⟩, rfl⟩ | exact ⟨.inr rfl, rfl⟩

def fpOk (n : Int) (xs : List Int) (m : Int) (ys : List Int) : Bool := relB n xs && relB m ys && decide (m ≤ 6)
def fpO (n : Int) (xs : List Int) (m : Int) (ys : List Int) : Option (List Int) := if fpOk n xs m ys then fpS xs ys ys.length [] else none
def fpV (n : Int) (xs : List Int) (m : Int) (ys : List Int) : List Int := (fpO n xs m ys).getD []
def fpB (n : Int) (xs : List Int) (m : Int) (ys : List Int) : Bool := (fpO n xs m ys).isSome
theorem fpV_len (n : Int) (xs : List Int) (m : Int) (ys : List Int) : (fpV n xs m ys).length ≤ 1048576 := by
  unfold fpV
  cases h : fpO n xs m ys with
  | none => simp
  | some zs =>
    rw [fpO] at h
    split at h
    · rename_i hok
      simp only [fpOk, Bool.and_eq_true, decide_eq_true_eq] at hok
      have h1 := fpS_len h
      have h2 := (relB_p hok.1.2).len
      simp only [Option.getD_some]
      simp at h1
      omega
    · cases h
theorem fp_no {n : Int} {xs : List Int} {m : Int} {ys : List Int} (h : fpOk n xs m ys = false) : fpV n xs m ys = [] ∧ fpB n xs m ys = false := by
  simp [fpV, fpB, fpO, h]
theorem fp_yes {n : Int} {xs : List Int} {m : Int} {ys : List Int} (h : fpOk n xs m ys = true) : fpV n xs m ys = (fpS xs ys ys.length []).getD [] ∧ fpB n xs m ys = (fpS xs ys ys.length []).isSome := by
  simp [fpV, fpB, fpO, h]

theorem hasElement_any (s i : Int) (w : World) (h0 : 0 ≤ s) (h1 : s ≤ 9223372036854775807) (hi : 0 ≤ i) :
    Calls Try.prog 81 #[.int .i64 s, .int .i64 i] w fun e w' => e = .returned (.bool (hasB s i)) ∧ w = w' := by
  have H := Lib.hid (has_and h0 h1 hi)
  go_enter Try.func81, Try.ntmps81
  go_wp2
  go_ret
  exact ⟨ret_bool H.out, rfl⟩

theorem hasElement_is {s i : Int} {b : Bool} (h0 : 0 ≤ s) (h1 : s ≤ 9223372036854775807) (hi : 0 ≤ i) (h : hasB s i = b) (w : World) (m : Nat) :
    Calls Try.prog 81 #[.int .i64 s, .int .i64 i] (w.drewN m) fun e w' => e = .returned (.bool b) ∧ ∃ k, w' = w.drewN k :=
  Calls.quiet_of_same ((hasElement_any s i (w.drewN m) h0 h1 hi).mono (fun e w' hh => ⟨by rw [← h]; exact hh.1, hh.2.symm⟩))

theorem boxes2 {w w1 : World} {u v u2 v2 : Value} (hb1 : Below ((w.alloc (.cells #[u, v] 26)).alloc (.cells #[u2, v2] 26)).heap.size ((w.alloc (.cells #[u, v] 26)).alloc (.cells #[u2, v2] 26)) w1) :
    Box2 w1 w.heap.size u v ∧ Box2 w1 (w.heap.size + 1) u2 v2 ∧ Below w.heap.size w w1 := by
  refine ⟨((Box2.new w u v 26).below ((Below.refl _ _).alloc (Nat.le_refl _) _)).below hb1, ?_, Below.trans (by repeat (first | exact Below.refl _ _ | assumption | refine Below.alloc ?_ (by first | exact Nat.le_refl _ | (simp only [World.size_alloc, World.size_setCell, World.size_drew]; omega) | omega) _ | refine Below.setCell ?_ (by first | exact Nat.le_refl _ | (simp only [World.size_alloc, World.size_setCell, World.size_drew]; omega) | omega) _ | refine Below.drew ?_)) (hb1.mono (by first | (simp only [World.size_alloc, World.size_setCell, World.size_drew]; omega) | omega))⟩
  have h := (Box2.new (w.alloc (.cells #[u, v] 26)) u2 v2 26).below hb1
  simpa using h

set_option maxRecDepth 100000 in
set_option maxHeartbeats 2000000 in
theorem fits_any (n : Int) (a : Option Addr) (xs : List Int) (cap : Nat) (m : Int) (b : Option Addr) (ys : List Int) (cap2 : Nat) (c : Option Addr) (L : List Int) (cap3 : Nat) (w : World) (hx : Rd w a xs) (hp : RelP n xs) (hy : Rd w b ys) (hq : RelP m ys) (hz : Rd w c L) (hL0 : 0 < L.length) (hL1 : L.length ≤ ys.length) (hL : LtL xs.length L) :
    Calls Try.prog 144 #[.agg #[.int .i64 n, .slice a xs.length cap], .agg #[.int .i64 m, .slice b ys.length cap2], .slice c L.length cap3] w fun e w' => e = .returned (.bool (ptW xs ys L)) ∧ Below w.heap.size w w' := by
  have y10 : ys.length ≤ 10 := by have := hq.len; have := hq.n1; omega
  obtain ⟨A1, B1, bw1⟩ := boxes2 (w := w) (u := .int .i64 n) (v := .slice a xs.length cap) (u2 := .int .i64 m) (v2 := .slice b ys.length cap2) (Below.refl _ _)
  obtain ⟨e, he⟩ : ∃ e, e = L.length - 1 := ⟨_, rfl⟩
  have hel : e < L.length := by omega
  have HE := Lib.hid he
  have hsub : (L.length : Int) - 1 = (e : Int) := by omega
  obtain ⟨q, hqe⟩ : ∃ q : Nat, nth L e = (q : Int) := ⟨(nth L e).toNat, by have := hL e hel; omega⟩
  have hqx : q < xs.length := by have := hL e hel; omega
  have HQ := Lib.hid hqe
  have HZ := Lib.hid hz
  clear he hqe hz
  go_enter Try.func144, Try.ntmps144
  go_wp2_with fail
  obtain ⟨w1, hw1⟩ : ∃ x : World, x = (w.alloc (.cells #[.int .i64 n, .slice a xs.length cap] 26)).alloc (.cells #[.int .i64 m, .slice b ys.length cap2] 26) := ⟨_, rfl⟩
  rw [← hw1] at A1 B1 bw1 ⊢
  clear hw1
  go_loopw [15] (fun i wr => ∃ k : Nat, k ≤ L.length ∧ i = .int .i64 k ∧ Below w.heap.size w wr ∧ Box2 wr w.heap.size (.int .i64 n) (.slice a xs.length cap) ∧ Box2 wr (w.heap.size + 1) (.int .i64 m) (.slice b ys.length cap2) ∧ (∀ j, j < k → ptG xs ys L j = true)) (fun i _ => L.length - (intOf i).toNat)
  case atStart => exact ⟨0, Nat.zero_le _, rfl, bw1, A1, B1, fun j hj => by omega⟩
  case round =>
    clear A1 B1 bw1
    obtain ⟨k, hk, rfl, hb, hA, hB, hall⟩ := hrel
    have HA := Lib.hid hall
    clear hall
    by_cases hlt : k < L.length
    · obtain ⟨b3, off3, rfl, hbl3, hck⟩ := (HZ.out.below hb).cell k hlt
      obtain ⟨b4, off4, e4, hbl4, hce⟩ := (HZ.out.below hb).cell e hel
      simp only [Option.some.injEq, Addr.mk.injEq, and_true] at e4
      obtain ⟨rfl, rfl⟩ := e4
      obtain ⟨p, hpe⟩ : ∃ p : Nat, nth L k = (p : Int) := ⟨(nth L k).toNat, by have := hL k hlt; omega⟩
      have hpx : p < xs.length := by have := hL k hlt; omega
      have HG : Hid (ptG xs ys L k = ((hasB (nth xs p) (q : Int) == hasB (nth ys k) (e : Int)) && (hasB (nth xs q) (p : Int) == hasB (nth ys e) (k : Int)))) := by
        rw [Hid, ptG, ← HE.out, HQ.out, hpe, Int.toNat_natCast, Int.toNat_natCast]
      rw [hpe] at hck
      rw [HQ.out] at hce
      have hky : k < ys.length := by omega
      have hey : e < ys.length := by omega
      obtain ⟨b1, off1, rfl, hbl1, hcp⟩ := (hx.below hb).cell p hpx
      obtain ⟨b5, off5, e5, hbl5, hcq⟩ := (hx.below hb).cell q hqx
      simp only [Option.some.injEq, Addr.mk.injEq, and_true] at e5
      obtain ⟨rfl, rfl⟩ := e5
      obtain ⟨b2, off2, rfl, hbl2, hyk⟩ := (hy.below hb).cell k hky
      obtain ⟨b6, off6, e6, hbl6, hye⟩ := (hy.below hb).cell e hey
      simp only [Option.some.injEq, Addr.mk.injEq, and_true] at e6
      obtain ⟨rfl, rfl⟩ := e6
      have ⟨r1, r2⟩ := rel_at hp hpx
      have ⟨r3, r4⟩ := rel_at hp hqx
      have ⟨r5, r6⟩ := rel_at hq hky
      have ⟨r7, r8⟩ := rel_at hq hey
      have n1 : (0 : Int) ≤ (p : Int) := by omega
      have n2 : (0 : Int) ≤ (q : Int) := by omega
      have n3 : (0 : Int) ≤ (k : Int) := by omega
      have n4 : (0 : Int) ≤ (e : Int) := by omega
      have ⟨zA, cA, dA⟩ := hA
      have ⟨zB, cB, dB⟩ := hB
      clear hpe
      have HAA := Lib.hid hA
      have HBB := Lib.hid hB
      clear hA hB
      cases hd1 : (hasB (nth xs p) (q : Int) == hasB (nth ys k) (e : Int))
      · have HN := Lib.hid (ptW_no hlt (show ptG xs ys L k = false by rw [HG.out, hd1]; rfl))
        go_wp2_with fail
        go_quiet ((go_at_call 81; exact hasElement_is (by assumption) (by assumption) (by assumption) rfl _ _))
        go_wp2_with fail
        go_ret
        exact ⟨ret_bool HN.out.symm, hb.trans ((Joins.below_draws _ _ _).mono hb.size)⟩
      · cases hd2 : (hasB (nth xs q) (p : Int) == hasB (nth ys e) (k : Int))
        · have HN := Lib.hid (ptW_no hlt (show ptG xs ys L k = false by rw [HG.out, hd1, hd2]; rfl))
          go_wp2_with fail
          go_quiet ((go_at_call 81; exact hasElement_is (by assumption) (by assumption) (by assumption) rfl _ _))
          go_wp2_with fail
          go_ret
          exact ⟨ret_bool HN.out.symm, hb.trans ((Joins.below_draws _ _ _).mono hb.size)⟩
        · have HY : Hid (ptG xs ys L k = true) := by rw [Hid, HG.out, hd1, hd2]; rfl
          go_wp2_with fail
          go_quiet ((go_at_call 81; exact hasElement_is (by assumption) (by assumption) (by assumption) rfl _ _))
          have hqq : Below wr.heap.size wr (wr.drewN nq) := Joins.below_draws _ _ _
          have hb := hb.trans (hqq.mono hb.size)
          have hA := HAA.out.below hqq
          have hB := HBB.out.below hqq
          obtain ⟨wq, hwq⟩ : ∃ x : World, x = wr.drewN nq := ⟨_, rfl⟩
          rw [← hwq] at hb hA hB ⊢
          clear hwq hqq
          go_wp2_with fail
          go_roundw
          case rel =>
            refine ⟨k + 1, by omega, by go_num, hb, hA, hB, fun j hj => ?_⟩
            by_cases e : j = k
            · rw [e]; exact HY.out
            · exact HA.out j (by omega)
          case measure => simp [intOf]; omega
    · have HY : Hid (ptW xs ys L = true) := ptW_iff.2 (fun j hj => HA.out j (by omega))
      go_wp2_with fail
      go_ret
      exact ⟨ret_bool HY.out.symm, hb⟩

theorem sliceIndex_any (a : Option Addr) (es : List Int) (cap : Nat) (i : Int) (w : World) (hx : Rd w a es) :
    Calls Try.prog 186 #[.slice a es.length cap, .int .i64 i] w fun e w' => ∃ r : Int, e = .returned (.int .i64 r) ∧ decide (0 ≤ r) = memB es i ∧ w = w' := by
  have hlen := hx.len
  go_enter Try.func186, Try.ntmps186
  go_wp2_with fail
  go_loop [8] (fun i' => ∃ k : Nat, k ≤ es.length ∧ i' = .int .i64 k ∧ ∀ j, j < k → nth es j ≠ i) (fun i' => es.length - (intOf i').toNat)
  case atStart => exact ⟨0, Nat.zero_le _, rfl, fun j hj => by omega⟩
  case round =>
    obtain ⟨k, hk, rfl, hall⟩ := hrel
    have HA := Lib.hid hall
    clear hall
    by_cases hlt : k < es.length
    · obtain ⟨b, off, rfl, hbl, hc⟩ := hx.cell k hlt
      have k0 : (0 : Int) ≤ (k : Int) := by omega
      have k1 : (k : Int) < (es.length : Int) := by omega
      cases he : (i == nth es k)
      · have HE : Hid (nth es k ≠ i) := by
          have : ¬ i = nth es k := by simpa using he
          exact fun e => this e.symm
        go_wp2_with fail
        go_round
        case rel =>
          refine ⟨k + 1, by omega, by go_num, fun j hj => ?_⟩
          by_cases e : j = k
          · rw [e]; exact HE.out
          · exact HA.out j (by omega)
        case measure => simp [intOf]; omega
      · have HM : Hid (memB es i = true) := memB_iff.2 ⟨k, hlt, (show i = nth es k by simpa using he).symm⟩
        go_wp2_with fail
        go_ret
        exact ⟨(k : Int), rfl, by rw [HM.out]; simp, rfl⟩
    · have HM : Hid (memB es i = false) := by
        rw [Hid, ← Bool.not_eq_true, memB_iff]
        rintro ⟨j, hj, e⟩
        exact HA.out j (by omega) e
      go_wp2_with fail
      go_ret
      exact ⟨-1, rfl, by rw [HM.out]; rfl, rfl⟩
theorem sliceHas_any (a : Option Addr) (es : List Int) (cap : Nat) (i : Int) (w : World) (hx : Rd w a es) :
    Calls Try.prog 143 #[.slice a es.length cap, .int .i64 i] w fun e w' => e = .returned (.bool (memB es i)) ∧ w = w' := by
  go_enter Try.func143, Try.ntmps143
  go_wp2_with fail
  refine (sliceIndex_any _ _ _ _ _ hx).mono ?_
  rintro e w' ⟨r, rfl, hr, rfl⟩
  have HR := Lib.hid hr
  clear hr
  go_wp2_with fail
  go_ret
  exact ⟨ret_bool HR.out, rfl⟩

/-- what stands behind the search -/
def CnPost (w0 : World) (B g cap n L : Nat) (l : List Int) (r : Option (List Int)) (e : Ending) (w' : World) : Prop :=
  Below B w0 w' ∧ ((∃ ys, r = some ys ∧ ys.length = L ∧ e = .returned (.tuple #[.slice (some ⟨g, 0, none⟩) L cap, .bool true]) ∧ OwnI w' B (.slice (some ⟨g, 0, none⟩) L cap) ys) ∨ (r = none ∧ e = .returned (.tuple #[.slice none 0 0, .bool false]) ∧ OwnI w' B (.slice (some ⟨g, 0, none⟩) n cap) l))

theorem OwnI.init {w : World} {B g n cap : Nat} {xs : List Int} {x : Int} (h : OwnI w B (.slice (some ⟨g, 0, none⟩) n cap) (xs ++ [x])) : OwnI w B (.slice (some ⟨g, 0, none⟩) xs.length cap) xs := by
  rcases h.2 with ⟨e, _⟩ | ⟨g', cap', cur, e, hb, hg, hn, hm, hs, ht⟩
  · cases e
  · simp only [Value.slice.injEq, Option.some.injEq, Addr.mk.injEq, and_true] at e
    obtain ⟨rfl, _, rfl⟩ := e
    rw [List.length_append, List.length_singleton] at hn ht
    refine ⟨by simp, .inr ⟨_, _, cur, rfl, hb, hg, by omega, hm, hs, ?_⟩⟩
    have h1 := congrArg (List.take xs.length) ht
    rw [List.take_take, show min xs.length ((xs.length + 1) * 1) = xs.length * 1 by omega, List.map_append] at h1
    rw [h1, List.take_append_of_le_length (by simp), List.take_of_length_le (by simp)]

set_option maxRecDepth 100000 in
set_option maxHeartbeats 4000000 in
theorem cp_any (w0 : World) (n : Int) (a : Option Addr) (xs : List Int) (cap : Nat) (m : Int) (b : Option Addr) (ys : List Int) (cap2 : Nat) (g cp : Nat) (hp : RelP n xs) (hq : RelP m ys) (hx : Rd w0 a xs) (hy : Rd w0 b ys) (hcap : ys.length ≤ cp) :
    ∀ (d : Nat) (l : List Int) (w : World), l.length + d = ys.length → LtL xs.length l → Below w0.heap.size w0 w → OwnI w w0.heap.size (.slice (some ⟨g, 0, none⟩) l.length cp) l →
    Calls Try.prog 77 #[.agg #[.int .i64 n, .slice a xs.length cap], .agg #[.int .i64 m, .slice b ys.length cap2], .slice (some ⟨g, 0, none⟩) l.length cp] w fun e w' => CnPost w0 w0.heap.size g cp l.length ys.length l (fpS xs ys d l) e w' ∧ w.grownBy w' (some g) := by
  have x10 : xs.length ≤ 10 := by have := hp.len; have := hp.n1; omega
  have y10 : ys.length ≤ 10 := by have := hq.len; have := hq.n1; omega
  obtain rfl : n = (xs.length : Int) := hp.len.symm
  obtain rfl : m = (ys.length : Int) := hq.len.symm
  intro d
  induction d with
  | zero =>
    intro l w hl hlt hb ho
    have hz : ((l.length : Int) == (ys.length : Int)) = true := by simp; omega
    have hb0 : Below w.heap.size w ((w.alloc (.cells #[.int .i64 (xs.length : Int), .slice a xs.length cap] 26)).alloc (.cells #[.int .i64 (ys.length : Int), .slice b ys.length cap2] 26)) := (by repeat (first | exact Below.refl _ _ | assumption | refine Below.alloc ?_ (by first | exact Nat.le_refl _ | (simp only [World.size_alloc, World.size_setCell, World.size_drew]; omega) | omega) _ | refine Below.setCell ?_ (by first | exact Nat.le_refl _ | (simp only [World.size_alloc, World.size_setCell, World.size_drew]; omega) | omega) _ | refine Below.drew ?_))
    have HG0 := Lib.hid (below_grown hb0 (Nat.le_refl _) (some g))
    have HP : Hid (CnPost w0 w0.heap.size g cp l.length ys.length l (fpS xs ys 0 l) (.returned (.tuple #[.slice (some ⟨g, 0, none⟩) l.length cp, .bool true])) ((w.alloc (.cells #[.int .i64 (xs.length : Int), .slice a xs.length cap] 26)).alloc (.cells #[.int .i64 (ys.length : Int), .slice b ys.length cap2] 26))) := by
      have e : l.length = ys.length := by omega
      refine ⟨hb.trans (hb0.mono hb.size), .inl ⟨l, rfl, e, by rw [e], ?_⟩⟩
      have ho' := ho.below hb0 (Nat.le_refl _)
      rw [e] at ho'
      exact ho'
    clear hb ho hl hlt hb0
    go_enter Try.func77, Try.ntmps77
    go_wp2_with fail
    exact bodyPost_ret (v := .tuple #[.slice (some ⟨g, 0, none⟩) l.length cp, .bool true]) (by simp [results, Try.results77, go_sem]) rfl ⟨HP.out, HG0.out⟩
  | succ d ih =>
    intro l w hl hlt hb ho
    obtain ⟨i0, hi, hz0, hz1, hz2⟩ := info_parts infoInt
    have hz : ((l.length : Int) == (ys.length : Int)) = false := by simp; omega
    have HIH := Lib.hid ih
    have HLT := Lib.hid hlt
    have HX := Lib.hid hx
    have HYY := Lib.hid hy
    have hll : l.length < ys.length := by omega
    have HLD : Hid (l.length + 1 + d = ys.length) := by show l.length + 1 + d = ys.length; omega
    obtain ⟨A1, B1, bw1⟩ := boxes2 (w := w) (u := .int .i64 (xs.length : Int)) (v := .slice a xs.length cap) (u2 := .int .i64 (ys.length : Int)) (v2 := .slice b ys.length cap2) (Below.refl _ _)
    have hgw := (ho.lt g rfl).2
    have hg0 := (ho.lt g rfl).1
    have HO := Lib.hid (ho.below bw1 (Nat.le_refl _))
    have HBW := Lib.hid (hb.trans (bw1.mono hb.size))
    have HGW := Lib.hid (below_grown bw1 (Nat.le_refl _) (some g))
    have hw0 := hb.size
    obtain ⟨G, hG⟩ : ∃ G : Nat → Option (List Int), G = fun i : Nat => if !memB l (i : Int) && ptW xs ys (l ++ [(i : Int)]) then fpS xs ys d (l ++ [(i : Int)]) else none := ⟨_, rfl⟩
    have HG : Hid (∀ i : Nat, G i = if !memB l (i : Int) && ptW xs ys (l ++ [(i : Int)]) then fpS xs ys d (l ++ [(i : Int)]) else none) := fun i => by rw [hG]
    have HR : Hid (fpS xs ys (d+1) l = find1 G xs.length) := by rw [Hid, fpS, hG]
    clear ih hlt hb ho hl hG hx hy
    go_enter Try.func77, Try.ntmps77
    go_wp2_with fail
    obtain ⟨w1, hw1⟩ : ∃ x : World, x = (w.alloc (.cells #[.int .i64 (xs.length : Int), .slice a xs.length cap] 26)).alloc (.cells #[.int .i64 (ys.length : Int), .slice b ys.length cap2] 26) := ⟨_, rfl⟩
    rw [← hw1] at A1 B1 bw1 HO HBW HGW ⊢
    clear hw1
    go_loopw [20] (fun i wq => ∃ k : Nat, k ≤ xs.length ∧ i = .int .i64 k ∧ OwnI wq w0.heap.size (.slice (some ⟨g, 0, none⟩) l.length cp) l ∧ Below w0.heap.size w0 wq ∧ Box2 wq w.heap.size (.int .i64 (xs.length : Int)) (.slice a xs.length cap) ∧ Box2 wq (w.heap.size + 1) (.int .i64 (ys.length : Int)) (.slice b ys.length cap2) ∧ w.grownBy wq (some g) ∧ (∀ j, j < k → G j = none)) (fun i _ => xs.length - (intOf i).toNat)
    case atStart => exact ⟨0, Nat.zero_le _, rfl, HO.out, HBW.out, A1, B1, HGW.out, fun j hj => by omega⟩
    case round =>
      clear A1 B1 bw1
      obtain ⟨k, hk, rfl, hoq, hbq, hA, hB, hgq, hno⟩ := hrel
      have HGQ := Lib.hid hgq
      clear hgq
      have HNO := Lib.hid hno
      have HBQ := Lib.hid hbq
      have hbs := hbq.size
      have HA := Lib.hid hA
      have HB := Lib.hid hB
      have ⟨zA, cA, dA⟩ := hA
      have ⟨zB, cB, dB⟩ := hB
      clear hno hA hB
      by_cases hkM : k < xs.length
      · have h1 : (k : Int) < (xs.length : Int) := by omega
        have HL1 := Lib.hid (HLT.out.snoc hkM)
        have HLN : Hid ((l ++ [(k : Int)]).length = l.length + 1) := by simp [Hid]
        have HGK := Lib.hid (HG.out k)
        go_wp2_with (at_builtin; refine wpList_append_fits _ rfl _ _ 24 rfl w0.heap.size 3 i0 1 Try.underlying24 hi hz1 g l.length cp (l.map (Value.int .i64)) rfl (by have h := hoq.alloc (.cells #[.int .i64 (k : Int)] 3); unfold OwnI at h; exact h) ⟨wr.heap.size, 0, none⟩ 1 1 [.int .i64 (k : Int)] rfl rfl (cell_one_new _ _ _) (by intro u hu; simp at hu; subst hu; rfl) (by omega) ?_)
        intro w3 hown3 hgrow
        have hg2 := grown_alloc_set hgrow
        have b3 : Below w0.heap.size w0 w3 := HBQ.out.trans (grown_below hg2 _ hg0 hbs)
        have A3 := HA.out.kept hg2 (by simp only [ne_eq, Option.some.injEq]; omega)
        have B3 := HB.out.kept hg2 (by simp only [ne_eq, Option.some.injEq]; omega)
        have o3 : OwnI w3 w0.heap.size (.slice (some ⟨g, 0, none⟩) (l ++ [(k : Int)]).length cp) (l ++ [(k : Int)]) := by
          unfold OwnI
          rw [List.length_append, List.map_append]
          exact hown3
        have HB3 := Lib.hid b3
        have HO3 := Lib.hid o3
        have HRL := Lib.hid (o3.init.rd)
        have hb3 := b3.size
        have HA3 := Lib.hid A3
        have HB3' := Lib.hid B3
        have HG3 := Lib.hid (grown_trans HGQ.out hg2)
        have HF := Lib.hid (fits_any (xs.length : Int) a xs cap (ys.length : Int) b ys cap2 (some ⟨g, 0, none⟩) (l ++ [(k : Int)]) cp w3 (HX.out.below b3) hp (HYY.out.below b3) hq o3.rd (by simp) (by simp; omega) HL1.out)
        clear hown3 hgrow hg2 b3 o3 hoq hbq cA dA cB dB zA zB A3 B3
        have ⟨zA, cA, dA⟩ := HA3.out
        have ⟨zB, cB, dB⟩ := HB3'.out
        obtain ⟨P, hP⟩ : ∃ P, P = l ++ [(k : Int)] := ⟨_, rfl⟩
        rw [← hP] at HL1 HLN HGK HO3 HF
        have HPE := Lib.hid hP
        clear hP
        rw [HLN.out] at HF HO3
        cases hm : memB l (k : Int)
        · cases hf : ptW xs ys P
          · have HGN : Hid (G k = none) := by rw [Hid, HGK.out, hf, Bool.and_false]; rfl
            go_wp2_with fail
            refine (sliceHas_any _ _ _ _ _ HRL.out).mono ?_
            rw [hm]
            rintro e w4 ⟨rfl, rfl⟩
            go_wp2_with fail
            refine HF.out.mono ?_
            rw [hf]
            rintro e w4 ⟨rfl, hb4⟩
            have O4 := HO3.out.below hb4 (Nat.le_refl _)
            have B4 := HB3.out.trans (hb4.mono hb3)
            have A5 := HA3.out.below hb4
            have B5 := HB3'.out.below hb4
            have HG4 := Lib.hid (grown_trans HG3.out (below_grown hb4 (Nat.le_refl _) (some g)))
            rw [HPE.out] at O4
            have O6 := O4.init
            clear hb4 O4 cA dA cB dB
            go_wp2_with fail
            go_roundw
            case rel =>
              refine ⟨k + 1, by omega, by go_num, O6, B4, A5, B5, HG4.out, fun j hj => ?_⟩
              by_cases e : j = k
              · rw [e]; exact HGN.out
              · exact HNO.out j (by omega)
            case measure => simp [intOf]; omega
          · have HGN : Hid (G k = fpS xs ys d P) := by rw [Hid, HGK.out, hf, hm]; rfl
            go_wp2_with fail
            refine (sliceHas_any _ _ _ _ _ HRL.out).mono ?_
            rw [hm]
            rintro e w4 ⟨rfl, rfl⟩
            go_wp2_with fail
            refine HF.out.mono ?_
            rw [hf]
            rintro e w4 ⟨rfl, hb4⟩
            have O4 := HO3.out.below hb4 (Nat.le_refl _)
            have B4 := HB3.out.trans (hb4.mono hb3)
            have HA5 := Lib.hid (HA3.out.below hb4)
            have HB5 := Lib.hid (HB3'.out.below hb4)
            have HG4 := Lib.hid (grown_trans HG3.out (below_grown hb4 (Nat.le_refl _) (some g)))
            have ⟨zA5, cA5, dA5⟩ := HA5.out
            have ⟨zB5, cB5, dB5⟩ := HB5.out
            have HC2 := Lib.hid (HIH.out P w4 (by rw [HLN.out]; exact HLD.out) HL1.out B4 (by rw [HLN.out]; exact O4))
            rw [HLN.out, ← HGN.out] at HC2
            clear hb4 O4 B4 cA dA cB dB
            go_wp2_with fail
            refine HC2.out.mono ?_
            rintro e w5 ⟨⟨hb5, ⟨zs, hzs, hzl, rfl, ho5⟩ | ⟨hzs, rfl, ho5⟩⟩, hg5⟩
            · have HPO : Hid (CnPost w0 w0.heap.size g cp l.length ys.length l (fpS xs ys (d+1) l) (.returned (.tuple #[.slice (some ⟨g, 0, none⟩) ys.length cp, .bool true])) w5) := by
                refine ⟨hb5, .inl ⟨zs, ?_, hzl, rfl, ho5⟩⟩
                rw [HR.out]
                exact find1_some hkM hzs HNO.out
              have HG5 := Lib.hid (grown_trans HG4.out hg5)
              clear ho5 hb5 hg5
              go_wp2_with fail
              exact bodyPost_ret (v := .tuple #[.slice (some ⟨g, 0, none⟩) ys.length cp, .bool true]) (by simp [results, Try.results77, go_sem]) rfl ⟨HPO.out, HG5.out⟩
            · rw [HPE.out] at ho5
              have O6 := ho5.init
              have HZ := Lib.hid hzs
              have HG5 := Lib.hid (grown_trans HG4.out hg5)
              have A7 := HA5.out.kept hg5 (by simp only [ne_eq, Option.some.injEq]; omega)
              have B7 := HB5.out.kept hg5 (by simp only [ne_eq, Option.some.injEq]; omega)
              clear ho5 hzs hg5
              go_wp2_with fail
              go_roundw
              case rel =>
                refine ⟨k + 1, by omega, by go_num, O6, hb5, A7, B7, HG5.out, fun j hj => ?_⟩
                by_cases e : j = k
                · rw [e]; exact HZ.out
                · exact HNO.out j (by omega)
              case measure => simp [intOf]; omega
        · have HGN : Hid (G k = none) := by rw [Hid, HGK.out, hm]; rfl
          go_wp2_with fail
          refine (sliceHas_any _ _ _ _ _ HRL.out).mono ?_
          rw [hm]
          rintro e w4 ⟨rfl, rfl⟩
          have O4 := HO3.out
          rw [HPE.out] at O4
          have O6 := O4.init
          clear O4
          go_wp2_with fail
          go_roundw
          case rel =>
            refine ⟨k + 1, by omega, by go_num, O6, HB3.out, HA3.out, HB3'.out, HG3.out, fun j hj => ?_⟩
            by_cases e : j = k
            · rw [e]; exact HGN.out
            · exact HNO.out j (by omega)
          case measure => simp [intOf]; omega
      · have HPO : Hid (CnPost w0 w0.heap.size g cp l.length ys.length l (fpS xs ys (d+1) l) (.returned (.tuple #[.slice none 0 0, .bool false])) wr) := by
          refine ⟨HBQ.out, .inr ⟨?_, rfl, hoq⟩⟩
          rw [HR.out]
          exact find1_none (fun j hj => HNO.out j (by omega))
        have h1 : ¬ (k : Int) < (xs.length : Int) := by omega
        clear hoq hbq
        go_wp2_with fail
        exact bodyPost_ret (v := .tuple #[.slice none 0 0, .bool false]) (by simp [results, Try.results77, go_sem]) rfl ⟨HPO.out, HGQ.out⟩

theorem fullSet_any (n : Int) (w : World) (h0 : 0 ≤ n) (h1 : n ≤ 10) :
    Calls Try.prog 202 #[.int .i64 n] w fun e w' => e = .returned (.int .i64 (2 ^ n.toNat - 1)) ∧ w = w' := by
  have hf := Lib.hid (full_eq h0 h1)
  go_enter Try.func202, Try.ntmps202
  go_wp2
  go_ret
  exact ⟨ret_int hf.out, rfl⟩

theorem isSet_any (s n : Int) (w : World) (h0' : 0 ≤ n) (h1' : n ≤ 10) :
    Calls Try.prog 185 #[.int .i64 s, .int .i64 n] w fun e w' => e = .returned (.bool (inB s 0 (2 ^ n.toNat - 1))) ∧ w = w' := by
  by_cases h0 : 0 ≤ s
  · by_cases h1 : s ≤ 2 ^ n.toNat - 1
    · have hf := Lib.hid (inB_iff.2 ⟨h0, h1⟩)
      go_enter Try.func185, Try.ntmps185
      go_wp2_with (go_at_call 202; refine (fullSet_any _ _ h0' h1').mono ?_; rintro e w' ⟨rfl, rfl⟩)
      go_ret
      exact ⟨ret_bool (by rw [hf.out]; try simp [h1]), rfl⟩
    · have hf := Lib.hid (inB_no (lo := 0).2 (.inr (show 2 ^ n.toNat - 1 < s by omega)))
      go_enter Try.func185, Try.ntmps185
      go_wp2_with (go_at_call 202; refine (fullSet_any _ _ h0' h1').mono ?_; rintro e w' ⟨rfl, rfl⟩)
      go_ret
      exact ⟨ret_bool (by rw [hf.out]; try simp [h1]), rfl⟩
  · have hf := Lib.hid (inB_no (hi := 2 ^ n.toNat - 1).2 (.inl (show s < 0 by omega)))
    go_enter Try.func185, Try.ntmps185
    go_wp2_with fail
    go_ret
    exact ⟨ret_bool (by rw [hf.out]; try simp [h1]), rfl⟩

theorem areSets_any (a : Option Addr) (xs : List Int) (cap : Nat) (n : Int) (w : World) (hx : Rd w a xs) (h0' : 0 ≤ n) (h1' : n ≤ 10) :
    Calls Try.prog 142 #[.slice a xs.length cap, .int .i64 n] w fun e w' => e = .returned (.bool (allB xs 0 (2 ^ n.toNat - 1))) ∧ w = w' := by
  have hlen := hx.len
  go_enter Try.func142, Try.ntmps142
  go_wp2_with fail
  go_loop [9] (fun i => ∃ k : Nat, k ≤ xs.length ∧ i = .int .i64 k ∧ allB (xs.take k) 0 (2 ^ n.toNat - 1) = true) (fun i => xs.length - (intOf i).toNat)
  case atStart => exact ⟨0, Nat.zero_le _, rfl, rfl⟩
  case round =>
    obtain ⟨k, hk, rfl, hall⟩ := hrel
    by_cases hlt : k < xs.length
    · obtain ⟨b, off, rfl, hbl, hc⟩ := hx.cell k hlt
      cases hin : inB (nth xs k) 0 (2 ^ n.toNat - 1)
      · have hf := Lib.hid (allB_false hlt hin)
        go_wp2_with (go_at_call 185; refine (isSet_any _ _ _ h0' h1').mono ?_; rintro e w' ⟨rfl, rfl⟩)
        go_ret
        exact ⟨ret_bool hf.out.symm, rfl⟩
      · go_wp2_with (go_at_call 185; refine (isSet_any _ _ _ h0' h1').mono ?_; rintro e w' ⟨rfl, rfl⟩)
        go_round
        case rel => exact ⟨k + 1, by omega, by go_num, by rw [allB_take _ _ _ _ hlt, hall, hin]; rfl⟩
        case measure => simp [intOf]; omega
    · go_wp2_with fail
      go_ret
      exact ⟨ret_bool (by rw [← hall, List.take_of_length_le (by omega)]), rfl⟩

theorem iIsRelation_any (n : Int) (a : Option Addr) (xs : List Int) (cap : Nat) (w : World) (_hn : -9223372036854775808 ≤ n ∧ n ≤ 9223372036854775807) (hx : Rd w a xs) :
    Calls Try.prog 76 #[.agg #[.int .i64 n, .slice a xs.length cap]] w fun e w' => e = .returned (.bool (relB n xs)) ∧ Below w.heap.size w w' := by
  have hx1 := hx.alloc (.cells #[.int .i64 n, .slice a xs.length cap] 26)
  have hlen := hx.len
  by_cases h0 : 0 ≤ n
  · by_cases h1 : n ≤ 10
    · cases h2 : ((xs.length : Int) == n)
      · have HR : Hid (relB n xs = false) := by
          have : ¬ (xs.length : Int) = n := by simpa using h2
          simp [Hid, relB, this]
        go_enter Try.func76, Try.ntmps76
        go_wp2_with fail
        go_ret
        exact ⟨ret_bool HR.out.symm, (by repeat (first | exact Below.refl _ _ | assumption | refine Below.alloc ?_ (by first | exact Nat.le_refl _ | (simp only [World.size_alloc, World.size_setCell, World.size_drew]; omega) | omega) _ | refine Below.setCell ?_ (by first | exact Nat.le_refl _ | (simp only [World.size_alloc, World.size_setCell, World.size_drew]; omega) | omega) _ | refine Below.drew ?_))⟩
      · have HR : Hid (relB n xs = allB xs 0 (2 ^ n.toNat - 1)) := by
          have : (xs.length : Int) = n := by simpa using h2
          simp [Hid, relB, inB, h0, h1, this]
        go_enter Try.func76, Try.ntmps76
        go_wp2_with fail
        refine (areSets_any _ _ _ _ _ hx1 h0 h1).mono ?_
        rintro e w' ⟨rfl, rfl⟩
        go_wp2_with fail
        go_ret
        exact ⟨ret_bool HR.out.symm, (by repeat (first | exact Below.refl _ _ | assumption | refine Below.alloc ?_ (by first | exact Nat.le_refl _ | (simp only [World.size_alloc, World.size_setCell, World.size_drew]; omega) | omega) _ | refine Below.setCell ?_ (by first | exact Nat.le_refl _ | (simp only [World.size_alloc, World.size_setCell, World.size_drew]; omega) | omega) _ | refine Below.drew ?_))⟩
    · have HR : Hid (relB n xs = false) := by simp [Hid, relB, inB]; omega
      go_enter Try.func76, Try.ntmps76
      go_wp2_with fail
      go_ret
      exact ⟨ret_bool HR.out.symm, (by repeat (first | exact Below.refl _ _ | assumption | refine Below.alloc ?_ (by first | exact Nat.le_refl _ | (simp only [World.size_alloc, World.size_setCell, World.size_drew]; omega) | omega) _ | refine Below.setCell ?_ (by first | exact Nat.le_refl _ | (simp only [World.size_alloc, World.size_setCell, World.size_drew]; omega) | omega) _ | refine Below.drew ?_))⟩
  · have HR : Hid (relB n xs = false) := by simp [Hid, relB, inB]; omega
    go_enter Try.func76, Try.ntmps76
    go_wp2_with fail
    go_ret
    exact ⟨ret_bool HR.out.symm, (by repeat (first | exact Below.refl _ _ | assumption | refine Below.alloc ?_ (by first | exact Nat.le_refl _ | (simp only [World.size_alloc, World.size_setCell, World.size_drew]; omega) | omega) _ | refine Below.setCell ?_ (by first | exact Nat.le_refl _ | (simp only [World.size_alloc, World.size_setCell, World.size_drew]; omega) | omega) _ | refine Below.drew ?_))⟩

/-- what make([]int, n) lays -/
def madeZ (n : Nat) : Array Value := madeCells (Value.int .i64 0).cells (n * 1)
theorem make_ints (n : Nat) (h : n ≤ 1024) (W : World) : (Instr.makeSlice 24 (.int .i64 (n : Int)) (.int .i64 (n : Int))).run Try.prog W = .ok (.slice (some ⟨W.heap.size, 0, none⟩) n n) (W.alloc (.cells (madeZ n) 3)) := by
  obtain ⟨i0, hi, hz0, hz1, hz2⟩ := info_parts infoInt
  have hr := run_make (P := Try.prog) W 24 3 i0 (.int .i64 0) Try.underlying24 hi hz0 .i64 .i64 n n (by omega) (Int.le_refl _) (by rw [hz2]; omega) (by omega)
  simp only [Int.toNat_natCast, hz1] at hr
  exact hr
theorem own_made (W : World) (B n : Nat) (h : n ≤ 1024) (hB : B ≤ W.heap.size) : OwnI (W.alloc (.cells (madeZ n) 3)) B (.slice (some ⟨W.heap.size, 0, none⟩) n n) (List.replicate n 0) := by
  have := World.ownsRow_lit W (e := 3) (size := 1) (madeZ n) n hB (by unfold maxLen; omega) (size_madeCells _ _)
  unfold OwnI
  rw [List.length_replicate, List.map_replicate]
  have e : (madeZ n).toList = List.replicate n (Value.int .i64 0) := by unfold madeZ; rw [Nat.mul_one]; exact toList_madeCells_one _ n
  rw [e] at this
  exact this

theorem make_room (n : Nat) (h : n ≤ 1024) (W : World) : (Instr.makeSlice 24 (.int .i64 0) (.int .i64 (n : Int))).run Try.prog W = .ok (.slice (some ⟨W.heap.size, 0, none⟩) 0 n) (W.alloc (.cells (madeZ n) 3)) := by
  obtain ⟨i0, hi, hz0, hz1, hz2⟩ := info_parts infoInt
  have hr := run_make (P := Try.prog) W 24 3 i0 (.int .i64 0) Try.underlying24 hi hz0 .i64 .i64 0 n (by omega) (by omega) (by rw [hz2]; omega) (by omega)
  simp only [Int.toNat_natCast, Int.toNat_zero, hz1] at hr
  exact hr
theorem own_room (W : World) (B n : Nat) (h : n ≤ 1024) (hB : B ≤ W.heap.size) : OwnI (W.alloc (.cells (madeZ n) 3)) B (.slice (some ⟨W.heap.size, 0, none⟩) 0 n) [] := by
  rcases (own_made W B n h hB).2 with ⟨e, _⟩ | ⟨g', cap', cur, e, hb, hg, hn, hm, hs, ht⟩
  · cases e
  · simp only [Value.slice.injEq, Option.some.injEq, Addr.mk.injEq, and_true] at e
    obtain ⟨rfl, _, rfl⟩ := e
    exact ⟨by simp, .inr ⟨_, _, cur, rfl, hb, hg, by first | exact Nat.zero_le _ | simp, hm, hs, by simp⟩⟩

set_option maxRecDepth 100000 in
set_option maxHeartbeats 1000000 in
theorem iFind_any (n : Int) (a : Option Addr) (xs : List Int) (cap : Nat) (m : Int) (b : Option Addr) (ys : List Int) (cap2 : Nat) (w : World) (hn : -9223372036854775808 ≤ n ∧ n ≤ 9223372036854775807) (hx : Rd w a xs) (hm : -9223372036854775808 ≤ m ∧ m ≤ 9223372036854775807) (hy : Rd w b ys) :
    Calls Try.prog 11 #[.agg #[.int .i64 n, .slice a xs.length cap], .agg #[.int .i64 m, .slice b ys.length cap2]] w fun e w' => ∃ a' cap', e = .returned (.tuple #[.slice a' (fpV n xs m ys).length cap', .bool (fpB n xs m ys)]) ∧ OwnI w' w.heap.size (.slice a' (fpV n xs m ys).length cap') (fpV n xs m ys) ∧ Below w.heap.size w w' := by
  have hx1 := (hx.alloc (.cells #[.int .i64 n, .slice a xs.length cap] 26)).alloc (.cells #[.int .i64 m, .slice b ys.length cap2] 26)
  have HN := Lib.hid hn
  have HM := Lib.hid hm
  clear hn hm
  go_enter Try.func11, Try.ntmps11
  go_wp2_with fail
  refine (iIsRelation_any _ _ _ _ _ HN.out hx1).mono ?_
  rintro e w1 ⟨rfl, hb1⟩
  obtain ⟨A1, B1, bw1⟩ := boxes2 hb1
  clear hb1 hx1
  cases hg : relB n xs
  · have HNO := Lib.hid (fp_no (n := n) (xs := xs) (m := m) (ys := ys) (by simp [fpOk, hg]))
    clear hg
    go_wp2_with fail
    refine bodyPost_ret (v := .tuple #[.slice none 0 0, .bool false]) (by simp [results, Try.results11, go_sem]) rfl ?_
    rw [HNO.out.1, HNO.out.2]
    exact ⟨none, 0, rfl, OwnI.nil _ _, bw1⟩
  · have hp := relB_p hg
    have HG := Lib.hid hg
    clear hg
    have ⟨zB, cB, dB⟩ := B1
    go_wp2_with fail
    refine (iIsRelation_any _ _ _ _ _ HM.out (hy.below bw1)).mono ?_
    rintro e w2 ⟨rfl, hb2⟩
    have bw2 : Below w.heap.size w w2 := bw1.trans (hb2.mono bw1.size)
    have A2 := A1.below hb2
    have B2 := B1.below hb2
    clear A1 B1 cB dB zB hb2 bw1
    have ⟨zA, cA, dA⟩ := A2
    have ⟨zB, cB, dB⟩ := B2
    cases hh : relB m ys
    · have HNO := Lib.hid (fp_no (n := n) (xs := xs) (m := m) (ys := ys) (by simp [fpOk, hh]))
      clear hh
      go_wp2_with fail
      refine bodyPost_ret (v := .tuple #[.slice none 0 0, .bool false]) (by simp [results, Try.results11, go_sem]) rfl ?_
      rw [HNO.out.1, HNO.out.2]
      exact ⟨none, 0, rfl, OwnI.nil _ _, bw2⟩
    · have hq := relB_p hh
      have HH := Lib.hid hh
      clear hh
      by_cases h6 : m ≤ 6
      · have HY := Lib.hid (fp_yes (n := n) (xs := xs) (m := m) (ys := ys) (by simp [fpOk, HG.out, HH.out, h6]))
        have bs2 := bw2.size
        have y10 : ys.length ≤ 10 := by have := hq.len; omega
        have hmk := make_room ys.length (by omega)
        obtain rfl : m = (ys.length : Int) := hq.len.symm
        have hW : Below w2.heap.size w2 (w2.alloc (.cells (madeZ ys.length) 3)).drew := ((Below.refl _ _).alloc (Nat.le_refl _) _).drew
        have hO : OwnI (w2.alloc (.cells (madeZ ys.length) 3)).drew w2.heap.size (.slice (some ⟨w2.heap.size, 0, none⟩) 0 ys.length) [] := (own_room w2 w2.heap.size ys.length (by omega) (Nat.le_refl _)).below (Below.refl _ _).drew (Nat.le_refl _)
        have HC := Lib.hid (cp_any w2 n a xs cap (ys.length : Int) b ys cap2 w2.heap.size ys.length hp hq (hx.below bw2) (hy.below bw2) (Nat.le_refl _) ys.length [] _ (by simp) (fun i hi => by simp at hi) hW hO)
        have HC2 : Hid (Calls Try.prog 77 #[.agg #[.int .i64 n, .slice a xs.length cap], .agg #[.int .i64 (ys.length : Int), .slice b ys.length cap2], .slice (some ⟨w2.heap.size, 0, none⟩) 0 ys.length] (w2.alloc (.cells (madeZ ys.length) 3)).drew fun e w' => ∃ a' cap', e = .returned (.tuple #[.slice a' ((fpS xs ys ys.length []).getD []).length cap', .bool (fpS xs ys ys.length []).isSome]) ∧ OwnI w' w2.heap.size (.slice a' ((fpS xs ys ys.length []).getD []).length cap') ((fpS xs ys ys.length []).getD []) ∧ Below w2.heap.size w2 w') := by
          refine HC.out.mono ?_
          rintro e w' ⟨⟨hb, ⟨zs, hz, hl, rfl, ho⟩ | ⟨hz, rfl, ho⟩⟩, _⟩
          · refine ⟨some ⟨w2.heap.size, 0, none⟩, ys.length, ?_, ?_, hb⟩
            · rw [hz, ← hl]; rfl
            · rw [hz, Option.getD_some, hl]; exact ho
          · refine ⟨none, 0, ?_, ?_, hb⟩
            · rw [hz]; rfl
            · rw [hz]; exact OwnI.nil _ _
        obtain ⟨r, hr⟩ : ∃ r, r = fpS xs ys ys.length [] := ⟨_, rfl⟩
        rw [← hr] at HC2 HY
        clear HC hW hO hr
        go_wp2_with fail
        go_region_held3 (fun w' => w'.cell? ⟨w.heap.size, 0, none⟩ = some (.int .i64 n) ∧ w'.cell? ⟨w.heap.size, 1, none⟩ = some (.slice a xs.length cap) ∧ w'.cell? ⟨w.heap.size + 1, 0, none⟩ = some (.int .i64 (ys.length : Int)) ∧ w'.cell? ⟨w.heap.size + 1, 1, none⟩ = some (.slice b ys.length cap2))
          (first | exact q3 | go_keep)
          (first | (go_at_call 77; refine HC2.out.mono ?_; rintro e w3 ⟨a3, c3, rfl, ho3, hb3⟩; have q3 : w3.cell? ⟨w.heap.size, 0, none⟩ = some (.int .i64 n) ∧ w3.cell? ⟨w.heap.size, 1, none⟩ = some (.slice a xs.length cap) ∧ w3.cell? ⟨w.heap.size + 1, 0, none⟩ = some (.int .i64 (ys.length : Int)) ∧ w3.cell? ⟨w.heap.size + 1, 1, none⟩ = some (.slice b ys.length cap2) := ⟨(A2.below hb3).2.1, (A2.below hb3).2.2, (B2.below hb3).2.1, (B2.below hb3).2.2⟩))
        all_goals
          go_wp2_with fail
          rw [HY.out.1, HY.out.2]
          refine bodyPost_ret (v := .tuple #[.slice a3 (r.getD []).length c3, .bool r.isSome]) (by simp [results, Try.results11, go_sem]) rfl ?_
          exact ⟨a3, c3, rfl, ho3.mono bs2, bw2.trans (hb3.mono bs2)⟩
      · have HNO := Lib.hid (fp_no (n := n) (xs := xs) (m := m) (ys := ys) (by simp [fpOk, h6]))
        clear zA zB
        go_wp2_with fail
        refine bodyPost_ret (v := .tuple #[.slice none 0 0, .bool false]) (by simp [results, Try.results11, go_sem]) rfl ?_
        rw [HNO.out.1, HNO.out.2]
        exact ⟨none, 0, rfl, OwnI.nil _ _, bw2⟩

theorem orHas_is {s i : Int} {b : Bool} (h0 : 0 ≤ s) (h1 : s ≤ 9223372036854775807) (hi : 0 ≤ i) (h : hasB s i = b) (w : World) (m : Nat) :
    Calls Try.prog 140 #[.int .i64 s, .int .i64 i] (w.drewN m) fun e w' => e = .returned (.bool b) ∧ ∃ k, w' = w.drewN k :=
  Calls.quiet_of_same ((orHas_any s i (w.drewN m) h0 h1 hi).mono (fun e w' hh => ⟨by rw [← h]; exact hh.1, hh.2.symm⟩))

set_option maxRecDepth 100000 in
set_option maxHeartbeats 2000000 in
theorem orFits_any (n : Int) (a : Option Addr) (xs : List Int) (cap : Nat) (m : Int) (b : Option Addr) (ys : List Int) (cap2 : Nat) (c : Option Addr) (l : List Int) (cap3 : Nat) (i : Nat) (w : World) (hx : Rd w a xs) (hp : RelP n xs) (hy : Rd w b ys) (hq : RelP m ys) (hz : Rd w c l) (hL1 : l.length < ys.length) (hL : LtL xs.length l) (hi : i < xs.length) :
    Calls Try.prog 145 #[.agg #[.int .i64 n, .slice a xs.length cap], .agg #[.int .i64 m, .slice b ys.length cap2], .slice c l.length cap3, .int .i64 (i : Int)] w fun e w' => e = .returned (.bool (!memB l (i : Int) && ptW xs ys (l ++ [(i : Int)]))) ∧ Below w.heap.size w w' := by
  have y10 : ys.length ≤ 10 := by have := hq.len; have := hq.n1; omega
  obtain ⟨A1, B1, bw1⟩ := boxes2 (w := w) (u := .int .i64 n) (v := .slice a xs.length cap) (u2 := .int .i64 m) (v2 := .slice b ys.length cap2) (Below.refl _ _)
  have n1 : (0 : Int) ≤ (i : Int) := by omega
  have n2 : (0 : Int) ≤ (l.length : Int) := by omega
  have ⟨r1, r2⟩ := rel_at hp hi
  have ⟨r3, r4⟩ := rel_at hq hL1
  have HZ := Lib.hid hz
  clear hz
  go_enter Try.func145, Try.ntmps145
  go_wp2_with fail
  obtain ⟨w1, hw1⟩ : ∃ x : World, x = (w.alloc (.cells #[.int .i64 n, .slice a xs.length cap] 26)).alloc (.cells #[.int .i64 m, .slice b ys.length cap2] 26) := ⟨_, rfl⟩
  rw [← hw1] at A1 B1 bw1 ⊢
  clear hw1
  go_loopw [16] (fun i' wr => ∃ k : Nat, k ≤ l.length ∧ i' = .int .i64 k ∧ Below w.heap.size w wr ∧ Box2 wr w.heap.size (.int .i64 n) (.slice a xs.length cap) ∧ Box2 wr (w.heap.size + 1) (.int .i64 m) (.slice b ys.length cap2) ∧ (∀ j, j < k → nth l j ≠ (i : Int) ∧ ptG xs ys (l ++ [(i : Int)]) j = true)) (fun i _ => l.length - (intOf i).toNat)
  case atStart => exact ⟨0, Nat.zero_le _, rfl, bw1, A1, B1, fun j hj => by omega⟩
  case round =>
    clear A1 B1 bw1
    obtain ⟨k, hk, rfl, hb, hA, hB, hall⟩ := hrel
    have HA := Lib.hid hall
    clear hall
    have ⟨zA, cA, dA⟩ := hA
    have ⟨zB, cB, dB⟩ := hB
    have HAA := Lib.hid hA
    have HBB := Lib.hid hB
    clear hA hB
    by_cases hlt : k < l.length
    · obtain ⟨b3, off3, rfl, hbl3, hck⟩ := (HZ.out.below hb).cell k hlt
      obtain ⟨p, hpe⟩ : ∃ p : Nat, nth l k = (p : Int) := ⟨(nth l k).toNat, by have := hL k hlt; omega⟩
      have hpx : p < xs.length := by have := hL k hlt; omega
      have HG : Hid (ptG xs ys (l ++ [(i : Int)]) k = ((hasB (nth xs p) (i : Int) == hasB (nth ys k) (l.length : Int)) && (hasB (nth xs i) (p : Int) == hasB (nth ys l.length) (k : Int)))) := by
        rw [Hid, ptG_at hlt, hpe, Int.toNat_natCast]
      have HPE := Lib.hid hpe
      rw [hpe] at hck
      have hky : k < ys.length := by omega
      obtain ⟨b1, off1, rfl, hbl1, hcp⟩ := (hx.below hb).cell p hpx
      obtain ⟨b5, off5, e5, hbl5, hcq⟩ := (hx.below hb).cell i hi
      simp only [Option.some.injEq, Addr.mk.injEq, and_true] at e5
      obtain ⟨rfl, rfl⟩ := e5
      obtain ⟨b2, off2, rfl, hbl2, hyk⟩ := (hy.below hb).cell k hky
      obtain ⟨b6, off6, e6, hbl6, hye⟩ := (hy.below hb).cell l.length hL1
      simp only [Option.some.injEq, Addr.mk.injEq, and_true] at e6
      obtain ⟨rfl, rfl⟩ := e6
      have ⟨r5, r6⟩ := rel_at hp hpx
      have ⟨r7, r8⟩ := rel_at hq hky
      have n3 : (0 : Int) ≤ (p : Int) := by omega
      have n4 : (0 : Int) ≤ (k : Int) := by omega
      clear hpe
      cases hd0 : ((p : Int) == (i : Int))
      · cases hd1 : (hasB (nth xs p) (i : Int) == hasB (nth ys k) (l.length : Int))
        · have HN : Hid ((!memB l (i : Int) && ptW xs ys (l ++ [(i : Int)])) = false) := by
            rw [Hid, ptW_no (a := k) (by simp; omega) (by rw [HG.out, hd1]; rfl), Bool.and_false]
          go_wp2_with fail
          go_quiet ((go_at_call 140; exact orHas_is (by assumption) (by assumption) (by assumption) rfl _ _))
          go_wp2_with fail
          go_ret
          exact ⟨ret_bool HN.out.symm, hb.trans ((Joins.below_draws _ _ _).mono hb.size)⟩
        · cases hd2 : (hasB (nth xs i) (p : Int) == hasB (nth ys l.length) (k : Int))
          · have HN : Hid ((!memB l (i : Int) && ptW xs ys (l ++ [(i : Int)])) = false) := by
              rw [Hid, ptW_no (a := k) (by simp; omega) (by rw [HG.out, hd1, hd2]; rfl), Bool.and_false]
            go_wp2_with fail
            go_quiet ((go_at_call 140; exact orHas_is (by assumption) (by assumption) (by assumption) rfl _ _))
            go_wp2_with fail
            go_ret
            exact ⟨ret_bool HN.out.symm, hb.trans ((Joins.below_draws _ _ _).mono hb.size)⟩
          · have HY : Hid (nth l k ≠ (i : Int) ∧ ptG xs ys (l ++ [(i : Int)]) k = true) := by
              refine ⟨?_, by rw [HG.out, hd1, hd2]; rfl⟩
              rw [HPE.out]; simpa using hd0
            go_wp2_with fail
            go_quiet ((go_at_call 140; exact orHas_is (by assumption) (by assumption) (by assumption) rfl _ _))
            have hqq : Below wr.heap.size wr (wr.drewN nq) := Joins.below_draws _ _ _
            have hb := hb.trans (hqq.mono hb.size)
            have hA := HAA.out.below hqq
            have hB := HBB.out.below hqq
            obtain ⟨wq, hwq⟩ : ∃ x : World, x = wr.drewN nq := ⟨_, rfl⟩
            rw [← hwq] at hb hA hB ⊢
            clear hwq hqq
            go_wp2_with fail
            go_roundw
            case rel =>
              refine ⟨k + 1, by omega, by go_num, hb, hA, hB, fun j hj => ?_⟩
              by_cases e : j = k
              · rw [e]; exact HY.out
              · exact HA.out j (by omega)
            case measure => simp [intOf]; omega
      · have HN : Hid ((!memB l (i : Int) && ptW xs ys (l ++ [(i : Int)])) = false) := by
          have : memB l (i : Int) = true := memB_iff.2 ⟨k, hlt, by rw [HPE.out]; simpa using hd0⟩
          rw [Hid, this]; rfl
        go_wp2_with fail
        go_quiet ((go_at_call 140; exact orHas_is (by assumption) (by assumption) (by assumption) rfl _ _))
        go_wp2_with fail
        go_ret
        exact ⟨ret_bool HN.out.symm, hb.trans ((Joins.below_draws _ _ _).mono hb.size)⟩
    · have hm : memB l (i : Int) = false := by
        rw [← Bool.not_eq_true, memB_iff]
        rintro ⟨j, hj, e⟩
        exact (HA.out j (by omega)).1 e
      obtain ⟨b5, off5, rfl, hbl5, hcq⟩ := (hx.below hb).cell i hi
      obtain ⟨b6, off6, rfl, hbl6, hye⟩ := (hy.below hb).cell l.length hL1
      have HV : Hid ((!memB l (i : Int) && ptW xs ys (l ++ [(i : Int)])) = (hasB (nth xs i) (i : Int) == hasB (nth ys l.length) (l.length : Int))) := by
        rw [Hid, hm, Bool.not_false, Bool.true_and, Bool.eq_iff_iff, ptW_snoc]
        constructor
        · rintro ⟨_, h⟩
          exact h
        · intro h
          exact ⟨fun j hj => (HA.out j (by omega)).2, h⟩
      clear hm
      go_wp2_with fail
      go_quiet ((go_at_call 140; exact orHas_is (by assumption) (by assumption) (by assumption) rfl _ _))
      go_wp2_with fail
      go_ret
      exact ⟨ret_bool HV.out.symm, hb.trans ((Joins.below_draws _ _ _).mono hb.size)⟩

/-- what a search hands back -/
def FsPost (W : World) (B : Nat) (r : Option (List Int)) (e : Ending) (w' : World) : Prop :=
  Below W.heap.size W w' ∧ ∃ a' cap', e = .returned (.tuple #[.slice a' (r.getD []).length cap', .bool r.isSome]) ∧ OwnI w' B (.slice a' (r.getD []).length cap') (r.getD [])

set_option maxRecDepth 100000 in
set_option maxHeartbeats 4000000 in
theorem orFind_any (n : Int) (a : Option Addr) (xs : List Int) (cap : Nat) (m : Int) (b : Option Addr) (ys : List Int) (cap2 : Nat) (B : Nat) (hp : RelP n xs) (hq : RelP m ys) :
    ∀ (d : Nat) (l : List Int) (c : Option Addr) (cap3 : Nat) (w : World), l.length + d = ys.length → LtL xs.length l → B ≤ w.heap.size → Rd w a xs → Rd w b ys → OwnI w B (.slice c l.length cap3) l →
    Calls Try.prog 78 #[.agg #[.int .i64 n, .slice a xs.length cap], .agg #[.int .i64 m, .slice b ys.length cap2], .slice c l.length cap3] w (FsPost w B (fpS xs ys d l)) := by
  have x10 : xs.length ≤ 10 := by have := hp.len; have := hp.n1; omega
  have y10 : ys.length ≤ 10 := by have := hq.len; have := hq.n1; omega
  obtain rfl : n = (xs.length : Int) := hp.len.symm
  obtain rfl : m = (ys.length : Int) := hq.len.symm
  intro d
  induction d with
  | zero =>
    intro l c cap3 w hld hlt hBw hx hy ho
    have hz : ((l.length : Int) == (ys.length : Int)) = true := by simp; omega
    have HO := Lib.hid ho
    have hb0 : Below w.heap.size w ((w.alloc (.cells #[.int .i64 (xs.length : Int), .slice a xs.length cap] 26)).alloc (.cells #[.int .i64 (ys.length : Int), .slice b ys.length cap2] 26)) := (by repeat (first | exact Below.refl _ _ | assumption | refine Below.alloc ?_ (by first | exact Nat.le_refl _ | (simp only [World.size_alloc, World.size_setCell, World.size_drew]; omega) | omega) _ | refine Below.setCell ?_ (by first | exact Nat.le_refl _ | (simp only [World.size_alloc, World.size_setCell, World.size_drew]; omega) | omega) _ | refine Below.drew ?_))
    clear hld ho
    go_enter Try.func78, Try.ntmps78
    go_wp2_with fail
    refine bodyPost_ret (v := .tuple #[.slice c l.length cap3, .bool true]) (by simp [results, Try.results78, go_sem]) rfl ?_
    exact ⟨hb0, c, cap3, rfl, HO.out.below hb0 (Nat.le_refl _)⟩
  | succ d ih =>
    intro l c cap3 w hld hlt hBw hx hy ho
    have HIH := Lib.hid ih
    have HLD := Lib.hid hld
    have HLT := Lib.hid hlt
    have HO := Lib.hid ho
    have HX := Lib.hid hx
    have HY := Lib.hid hy
    have HBW : Hid (B ≤ w.heap.size) := hBw
    obtain ⟨i0, hi, hz0, hz1, hz2⟩ := info_parts infoInt
    have hz : ((l.length : Int) == (ys.length : Int)) = false := by simp; omega
    have hl9 : l.length ≤ 9 := by omega
    have hly : l.length < ys.length := by omega
    obtain ⟨A1, B1, bw1⟩ := boxes2 (w := w) (u := .int .i64 (xs.length : Int)) (v := .slice a xs.length cap) (u2 := .int .i64 (ys.length : Int)) (v2 := .slice b ys.length cap2) (Below.refl _ _)
    obtain ⟨G, hG⟩ : ∃ G : Nat → Option (List Int), G = fun i : Nat => if !memB l (i : Int) && ptW xs ys (l ++ [(i : Int)]) then fpS xs ys d (l ++ [(i : Int)]) else none := ⟨_, rfl⟩
    have HG : Hid (∀ i : Nat, G i = if !memB l (i : Int) && ptW xs ys (l ++ [(i : Int)]) then fpS xs ys d (l ++ [(i : Int)]) else none) := fun i => by rw [hG]
    have HR : Hid (fpS xs ys (d+1) l = find1 G xs.length) := by rw [Hid, fpS, hG]
    clear ih hld hlt ho hx hy hG
    go_enter Try.func78, Try.ntmps78
    go_wp2_with fail
    obtain ⟨w1, hw1⟩ : ∃ x : World, x = (w.alloc (.cells #[.int .i64 (xs.length : Int), .slice a xs.length cap] 26)).alloc (.cells #[.int .i64 (ys.length : Int), .slice b ys.length cap2] 26) := ⟨_, rfl⟩
    rw [← hw1] at A1 B1 bw1 ⊢
    clear hw1
    go_loopw [8] (fun i' wr => ∃ k : Nat, k ≤ xs.length ∧ i' = .int .i64 k ∧ Below w.heap.size w wr ∧ Box2 wr w.heap.size (.int .i64 (xs.length : Int)) (.slice a xs.length cap) ∧ Box2 wr (w.heap.size + 1) (.int .i64 (ys.length : Int)) (.slice b ys.length cap2) ∧ (∀ j, j < k → G j = none)) (fun i _ => xs.length - (intOf i).toNat)
    case atStart => exact ⟨0, Nat.zero_le _, rfl, bw1, A1, B1, fun j hj => by omega⟩
    case round =>
      clear A1 B1 bw1
      obtain ⟨k, hk, rfl, hb, hA, hB, hno⟩ := hrel
      have HNO := Lib.hid hno
      have HBB := Lib.hid hb
      have HA := Lib.hid hA
      have HB := Lib.hid hB
      have ⟨zA, cA, dA⟩ := hA
      have ⟨zB, cB, dB⟩ := hB
      have hbs := hb.size
      clear hno hb hA hB
      by_cases hkx : k < xs.length
      · have HF := Lib.hid (orFits_any (xs.length : Int) a xs cap (ys.length : Int) b ys cap2 c l cap3 k _ (HX.out.below HBB.out) hp (HY.out.below HBB.out) hq (HO.out.rd.below HBB.out) hly HLT.out hkx)
        have HGK := Lib.hid (HG.out k)
        have HLS := Lib.hid (HLT.out.snoc hkx)
        obtain ⟨P, hP⟩ : ∃ P, P = l ++ [(k : Int)] := ⟨_, rfl⟩
        have HPL : Hid (P.length = l.length + 1) := by rw [hP]; simp [Hid]
        have HPE := Lib.hid hP
        rw [← hP] at HF HGK HLS
        clear hP
        cases hf : (!memB l (k : Int) && ptW xs ys P)
        · rw [hf] at HF HGK
          have HGN : Hid (G k = none) := by rw [Hid, HGK.out]; rfl
          go_wp2_with fail
          refine HF.out.mono ?_
          rintro e w2 ⟨rfl, hb2⟩
          have b2 := HBB.out.trans (hb2.mono hbs)
          have A2 := HA.out.below hb2
          have B2 := HB.out.below hb2
          clear hb2 cA dA cB dB
          go_wp2_with fail
          go_roundw
          case rel =>
            refine ⟨k + 1, by omega, by go_num, b2, A2, B2, fun j hj => ?_⟩
            by_cases e : j = k
            · rw [e]; exact HGN.out
            · exact HNO.out j (by omega)
          case measure => simp [intOf]; omega
        · rw [hf] at HF HGK
          have HGN : Hid (G k = fpS xs ys d P) := by rw [Hid, HGK.out]; rfl
          go_wp2_with fail
          refine HF.out.mono ?_
          rintro e w2 ⟨rfl, hb2⟩
          have b2 := HBB.out.trans (hb2.mono hbs)
          have A2 := HA.out.below hb2
          have B2 := HB.out.below hb2
          have b2s := b2.size
          have HA2 := Lib.hid A2
          have HB2 := Lib.hid B2
          have H2 := Lib.hid b2
          have hoq := Lib.hid (HO.out.rd.below b2)
          have ⟨zA2, cA2, dA2⟩ := A2
          have ⟨zB2, cB2, dB2⟩ := B2
          have HIH2 : Hid (∀ b' cap2' w', B ≤ w'.heap.size → Below w.heap.size w w' → OwnI w' B (.slice b' (l.length + 1) cap2') P → Calls Try.prog 78 #[.agg #[.int .i64 (xs.length : Int), .slice a xs.length cap], .agg #[.int .i64 (ys.length : Int), .slice b ys.length cap2], .slice b' (l.length + 1) cap2'] w' (FsPost w' B (G k))) := fun b' cap2' w' h1 h2 h3 => by
            have h := HIH.out P b' cap2' w' (by have := HLD.out; have := HPL.out; omega) HLS.out h1 (HX.out.below h2) (HY.out.below h2)
            rw [← HGN.out, HPL.out] at h
            exact h h3
          clear hb2 cA dA cB dB A2 B2 b2
          obtain ⟨r, hr⟩ : ∃ r, G k = r := ⟨_, rfl⟩
          rw [hr] at HIH2
          have HRR := Lib.hid hr
          clear hr
          go_wp2_with fail
          go_region_law (first
            | (have _g := ho5; go_simp; go_at_call 78; refine (HIH2.out _ _ _ (by have := HBW.out; have := b5.size; simp; omega) (by first | exact H2.out.trans (b5.mono b2s) | exact (H2.out.trans (b5.mono b2s)).drew) (by rw [HPE.out]; first | exact o5 | exact o5.below (Below.refl _ _).drew (Nat.le_refl _))).mono ?_; rintro e w6 ⟨hb6, a6, c6, rfl, ho6⟩)
            | (have _g := NW; refine step_push (by rfl) _ _ (by rfl) (by rfl) (by rfl) (by first | exact ho3 | exact ho3.below (Joins.below_draws _ _ _) (Nat.le_refl _)) (by rfl) (by exact NW) (by omega) (by exact ht3.size) ?_; intro g5 c5 w5 ho5 hg5 hat5; have b5 : Below w2.heap.size w2 w5 := ht3.trans (below_of_grown hg5 (fun c e => (ho3.lt c e).1) ht3.size); have o5 := ho5.mono (B' := B) (by have := HBW.out; omega); have ⟨zA5, cA5, dA5⟩ := HA2.out.below b5; have ⟨zB5, cB5, dB5⟩ := HB2.out.below b5)
            | (have _g := ho3; refine step_push (by rfl) _ _ (by rfl) (by rfl) (by rfl) (by exact ho3.alloc _) (by rfl) (by simp; rfl) (by omega) (by have := ht3.size; simp; omega) ?_; intro g5 c5 w5 ho5 hg5 hat5; have b5 : Below w2.heap.size w2 w5 := ht3.trans (below_of_grown (grown_alloc_set hg5) (fun c e => (ho3.lt c e).1) ht3.size); have o5 := ho5.mono (B' := B) (by have := HBW.out; omega); have ⟨zA5, cA5, dA5⟩ := HA2.out.below b5; have ⟨zB5, cB5, dB5⟩ := HB2.out.below b5)
            | (go_simp; go_at_call 146; refine (l1Own_any _ l _ _ (by first | exact hoq.out.below (Joins.below_draws _ _ _) | exact (hoq.out.below (Joins.below_draws _ _ _)).alloc _) (by omega)).mono ?_; rintro e w3 ⟨a3, c3, rfl, ho3', hb3⟩; have ht3 : Below w2.heap.size w2 w3 := (by first | exact below_drew hb3 | exact below_after hb3); have ho3 := ho3'.mono (B' := w2.heap.size) (by simp); have ⟨zA3, cA3, dA3⟩ := HA2.out.below ht3; have ⟨zB3, cB3, dB3⟩ := HB2.out.below ht3; (try have NW := news_after hb3); clear ho3' hb3))
          all_goals
            have ht6 : Below w2.heap.size w2 w6 := b5.trans ((by first | exact below_drew hb6 | exact hb6 : Below w5.heap.size w5 w6).mono b5.size)
            cases r with
            | none =>
              simp only [Option.getD_none, Option.isSome_none, List.length_nil]
              go_wp2_with fail
              go_roundw
              case rel =>
                refine ⟨k + 1, by omega, by go_num, H2.out.trans (ht6.mono b2s), HA2.out.below ht6, HB2.out.below ht6, fun j hj => ?_⟩
                by_cases e : j = k
                · rw [e]; exact HRR.out
                · exact HNO.out j (by omega)
              case measure => simp [intOf]; omega
            | some zs =>
              have HRES : Hid (fpS xs ys (d+1) l = some zs) := by rw [Hid, HR.out]; exact find1_some hkx HRR.out HNO.out
              simp only [Option.getD_some, Option.isSome_some] at ho6 ⊢
              go_wp2_with fail
              refine bodyPost_ret (v := .tuple #[.slice a6 zs.length c6, .bool true]) (by simp [results, Try.results78, go_sem]) rfl ?_
              rw [HRES.out]
              exact ⟨H2.out.trans (ht6.mono b2s), a6, c6, rfl, ho6⟩
      · have HRR : Hid (fpS xs ys (d+1) l = none) := by rw [Hid, HR.out]; exact find1_none (fun j hj => HNO.out j (by omega))
        go_wp2_with fail
        refine bodyPost_ret (v := .tuple #[.slice none 0 0, .bool false]) (by simp [results, Try.results78, go_sem]) rfl ?_
        rw [HRR.out]
        exact ⟨HBB.out, none, 0, rfl, OwnI.nil _ _⟩

set_option maxRecDepth 100000 in
set_option maxHeartbeats 1000000 in
theorem sFind_any (n : Int) (a : Option Addr) (xs : List Int) (cap : Nat) (m : Int) (b : Option Addr) (ys : List Int) (cap2 : Nat) (w : World) (hn : -9223372036854775808 ≤ n ∧ n ≤ 9223372036854775807) (hx : Rd w a xs) (hm : -9223372036854775808 ≤ m ∧ m ≤ 9223372036854775807) (hy : Rd w b ys) :
    Calls Try.prog 12 #[.agg #[.int .i64 n, .slice a xs.length cap], .agg #[.int .i64 m, .slice b ys.length cap2]] w fun e w' => ∃ a' cap', e = .returned (.tuple #[.slice a' (fpV n xs m ys).length cap', .bool (fpB n xs m ys)]) ∧ OwnI w' w.heap.size (.slice a' (fpV n xs m ys).length cap') (fpV n xs m ys) ∧ Below w.heap.size w w' := by
  have hx1 := (hx.alloc (.cells #[.int .i64 n, .slice a xs.length cap] 26)).alloc (.cells #[.int .i64 m, .slice b ys.length cap2] 26)
  have HN := Lib.hid hn
  have HM := Lib.hid hm
  clear hn hm
  go_enter Try.func12, Try.ntmps12
  go_wp2_with fail
  refine (orRelation_any _ _ _ _ _ hx1).mono ?_
  rintro e w1 ⟨rfl, hb1⟩
  obtain ⟨A1, B1, bw1⟩ := boxes2 hb1
  clear hb1 hx1
  cases hg : relB n xs
  · have HNO := Lib.hid (fp_no (n := n) (xs := xs) (m := m) (ys := ys) (by simp [fpOk, hg]))
    clear hg
    go_wp2_with fail
    refine bodyPost_ret (v := .tuple #[.slice none 0 0, .bool false]) (by simp [results, Try.results12, go_sem]) rfl ?_
    rw [HNO.out.1, HNO.out.2]
    exact ⟨none, 0, rfl, OwnI.nil _ _, bw1⟩
  · have hp := relB_p hg
    have HG := Lib.hid hg
    clear hg
    have ⟨zB, cB, dB⟩ := B1
    go_wp2_with fail
    refine (orRelation_any _ _ _ _ _ (hy.below bw1)).mono ?_
    rintro e w2 ⟨rfl, hb2⟩
    have bw2 : Below w.heap.size w w2 := bw1.trans (hb2.mono bw1.size)
    have A2 := A1.below hb2
    have B2 := B1.below hb2
    clear A1 B1 cB dB zB hb2 bw1
    have ⟨zA, cA, dA⟩ := A2
    have ⟨zB, cB, dB⟩ := B2
    cases hh : relB m ys
    · have HNO := Lib.hid (fp_no (n := n) (xs := xs) (m := m) (ys := ys) (by simp [fpOk, hh]))
      clear hh
      go_wp2_with fail
      refine bodyPost_ret (v := .tuple #[.slice none 0 0, .bool false]) (by simp [results, Try.results12, go_sem]) rfl ?_
      rw [HNO.out.1, HNO.out.2]
      exact ⟨none, 0, rfl, OwnI.nil _ _, bw2⟩
    · have hq := relB_p hh
      have HH := Lib.hid hh
      clear hh
      by_cases h6 : m ≤ 6
      · have HY := Lib.hid (fp_yes (n := n) (xs := xs) (m := m) (ys := ys) (by simp [fpOk, HG.out, HH.out, h6]))
        have bs2 := bw2.size
        have HC := Lib.hid (orFind_any n a xs cap m b ys cap2 w2.heap.size hp hq ys.length [] none 0 w2 (by simp) (fun i hi => by simp at hi) (Nat.le_refl _) (hx.below bw2) (hy.below bw2) (OwnI.nil _ _))
        go_wp2_with fail
        refine HC.out.mono ?_
        rintro e w3 ⟨hb3, a3, c3, rfl, ho3⟩
        go_wp2_with fail
        rw [HY.out.1, HY.out.2]
        refine bodyPost_ret (v := .tuple #[.slice a3 ((fpS xs ys ys.length []).getD []).length c3, .bool (fpS xs ys ys.length []).isSome]) (by simp [results, Try.results12, go_sem]) rfl ?_
        exact ⟨a3, c3, rfl, ho3.mono bs2, bw2.trans (hb3.mono bs2)⟩
      · have HNO := Lib.hid (fp_no (n := n) (xs := xs) (m := m) (ys := ys) (by simp [fpOk, h6]))
        clear zA zB
        go_wp2_with fail
        refine bodyPost_ret (v := .tuple #[.slice none 0 0, .bool false]) (by simp [results, Try.results12, go_sem]) rfl ?_
        rw [HNO.out.1, HNO.out.2]
        exact ⟨none, 0, rfl, OwnI.nil _ _, bw2⟩

/-- a row of m integers of which the first k are filled, f 0 .. -/
def rowF (f : Nat → Int) (m k : Nat) : List Int := fmap f k ++ List.replicate (m - k) 0
theorem rowF_len (f : Nat → Int) {m k : Nat} (h : k ≤ m) : (rowF f m k).length = m := by simp [rowF, fmap_len]; omega
theorem rowF_set (f : Nat → Int) {m k : Nat} (h : k < m) : (rowF f m k).set k (f k) = rowF f m (k+1) := by
  apply List.ext_getElem?
  intro j
  rw [List.getElem?_set]
  by_cases hj : k = j
  · subst hj
    rw [if_pos rfl, if_pos (by rw [rowF_len f (by omega)]; exact h), rowF, List.getElem?_append_left (by rw [fmap_len]; omega)]
    simp [fmap]
  · simp only [hj, if_false, rowF, List.getElem?_append, fmap_len, List.getElem?_replicate]
    by_cases h1 : j < k
    · have h2 : j < k + 1 := by omega
      simp [h1, h2, fmap]
    · have h2 : ¬ j < k + 1 := by omega
      have h3 : j - k < m - k ↔ j - (k+1) < m - (k+1) := by omega
      simp [h1, h2, h3]
theorem rowF_zero (f : Nat → Int) {m k : Nat} (h : k < m) : (rowF f m k).set k 0 = rowF f m k := by
  apply List.ext_getElem?
  intro j
  rw [List.getElem?_set]
  by_cases hj : k = j
  · subst hj
    rw [if_pos rfl, if_pos (by rw [rowF_len f (by omega)]; exact h), rowF, List.getElem?_append_right (by rw [fmap_len]; omega)]
    rw [fmap_len, Nat.sub_self, List.getElem?_replicate, if_pos (by omega)]
  · simp [hj]
theorem rowF_end (f : Nat → Int) (m : Nat) : rowF f m m = fmap f m := by simp [rowF]
theorem made_row {w1 : World} {B : Nat} {v : Value} {m : Nat} (f : Nat → Int) (h : w1.ownsRow B 3 1 v m (madeCells (Value.int .i64 0).cells (m * 1)).toList) : OwnI w1 B v (rowF f m 0) := by
  unfold OwnI
  rw [rowF_len f (Nat.zero_le _)]
  simpa [Value.cells, toList_madeCells_one, fmap, rowF] using h

/-- the row behind k rounds: what the names of the first k elements have -/
def renRow (xs es : List Int) (k : Nat) : List Int := fmap (fun a => if pl es a < k then renE xs es a else 0) es.length
theorem renRow_len (xs es : List Int) (k : Nat) : (renRow xs es k).length = es.length := fmap_len _ _
theorem nth_ext {xs ys : List Int} (hl : xs.length = ys.length) (h : ∀ i, i < xs.length → nth xs i = nth ys i) : xs = ys := by
  apply List.ext_getElem hl
  intro i h1 h2
  have := h i h1
  rwa [nth_get xs i h1, nth_get ys i h2] at this
theorem renRow_zero {n : Int} {xs es : List Int} (h : permB n es = true) {k x : Nat} (hk : k < es.length) (e : nth es k = (x : Int)) : (renRow xs es k).set x 0 = renRow xs es k := by
  have hx : x < es.length := by
    have := okN_elem ((permB_iff.1 h).2 k hk)
    have := (permB_iff.1 h).1
    omega
  apply nth_ext (by simp)
  intro i hi
  rw [List.length_set, renRow_len] at hi
  rw [nth_set (by rw [renRow_len]; exact hx)]
  split
  · rename_i hxi
    subst hxi
    rw [renRow, fmap_nth _ hi, pl_nth h hk e, if_neg (by omega)]
  · rfl
theorem renRow_next {n : Int} {xs es : List Int} (h : permB n es = true) {k x : Nat} (hk : k < es.length) (e : nth es k = (x : Int)) :
    (renRow xs es k).set x ((renTo es (nth xs k) es.length : Nat) : Int) = renRow xs es (k + 1) := by
  have hx : x < es.length := by
    have := okN_elem ((permB_iff.1 h).2 k hk)
    have := (permB_iff.1 h).1
    omega
  apply nth_ext (by simp [renRow_len])
  intro i hi
  rw [List.length_set, renRow_len] at hi
  rw [nth_set (by rw [renRow_len]; exact hx)]
  split
  · rename_i hxi
    subst hxi
    rw [renRow, fmap_nth _ hi, pl_nth h hk e, if_pos (by omega), renE, pl_nth h hk e]
  · rename_i hxi
    rw [renRow, fmap_nth _ hi, renRow, fmap_nth _ hi]
    have hne : pl es i ≠ k := by
      intro hp
      have := (pl_spec h hi).2
      rw [hp, e] at this
      exact hxi (by omega)
    have : pl es i < k + 1 ↔ pl es i < k := by omega
    simp only [this]
theorem renRow_end {n : Int} {xs es : List Int} (h : permB n es = true) : renRow xs es es.length = rens xs es := by
  apply nth_ext (by rw [renRow_len, rens, fmap_len])
  intro i hi
  rw [renRow_len] at hi
  rw [renRow, fmap_nth _ hi, rens, fmap_nth _ hi, if_pos (pl_spec h hi).1]
theorem renRow_start (xs es : List Int) : renRow xs es 0 = rowF (fun _ => 0) es.length 0 := by
  apply nth_ext (by rw [renRow_len, rowF_len _ (Nat.zero_le _)])
  intro i hi
  rw [renRow_len] at hi
  rw [renRow, fmap_nth _ hi, if_neg (by omega)]
  simp [rowF, fmap, nth, hi]

theorem isElement_any (n : Int) (a : Option Addr) (len cap : Nat) (i : Int) (w : World) :
    Calls Try.prog 187 #[.agg #[.int .i64 n, .slice a len cap], .int .i64 i] w fun e w' => e = .returned (.bool (elemB i n)) ∧ Below w.heap.size w w' := by
  by_cases h0 : 0 ≤ i
  · by_cases h1 : i < n
    · have H := Lib.hid (elemB_iff.2 ⟨h0, h1⟩)
      go_enter Try.func187, Try.ntmps187
      go_wp2
      go_ret
      exact ⟨ret_bool (by rw [H.out]; try simp [h1]), (by repeat (first | exact Below.refl _ _ | assumption | refine Below.alloc ?_ (by first | exact Nat.le_refl _ | (simp only [World.size_alloc, World.size_setCell, World.size_drew]; omega) | omega) _ | refine Below.setCell ?_ (by first | exact Nat.le_refl _ | (simp only [World.size_alloc, World.size_setCell, World.size_drew]; omega) | omega) _ | refine Below.drew ?_))⟩
    · have H := Lib.hid (elemB_no.2 (.inr (show n ≤ i by omega)))
      go_enter Try.func187, Try.ntmps187
      go_wp2
      go_ret
      exact ⟨ret_bool (by rw [H.out]; try simp [h1]), (by repeat (first | exact Below.refl _ _ | assumption | refine Below.alloc ?_ (by first | exact Nat.le_refl _ | (simp only [World.size_alloc, World.size_setCell, World.size_drew]; omega) | omega) _ | refine Below.setCell ?_ (by first | exact Nat.le_refl _ | (simp only [World.size_alloc, World.size_setCell, World.size_drew]; omega) | omega) _ | refine Below.drew ?_))⟩
  · have H := Lib.hid (elemB_no (n := n).2 (.inl (show i < 0 by omega)))
    go_enter Try.func187, Try.ntmps187
    go_wp2
    go_ret
    exact ⟨ret_bool (by rw [H.out]), (by repeat (first | exact Below.refl _ _ | assumption | refine Below.alloc ?_ (by first | exact Nat.le_refl _ | (simp only [World.size_alloc, World.size_setCell, World.size_drew]; omega) | omega) _ | refine Below.setCell ?_ (by first | exact Nat.le_refl _ | (simp only [World.size_alloc, World.size_setCell, World.size_drew]; omega) | omega) _ | refine Below.drew ?_))⟩

/-- has a list only elements, and none twice? -/
def difB (n : Int) (es : List Int) : Bool := (List.range es.length).all (okN n es)
theorem difB_iff {n : Int} {es : List Int} : difB n es = true ↔ ∀ k, k < es.length → okN n es k = true := by simp [difB]
theorem difB_no {n : Int} {es : List Int} {k : Nat} (hk : k < es.length) (h : okN n es k = false) : difB n es = false := by
  rw [← Bool.not_eq_true, difB_iff]
  intro h2
  rw [h2 k hk] at h
  cases h
theorem areDiff_any (n : Int) (a : Option Addr) (len cap : Nat) (a1 : Option Addr) (es : List Int) (cap1 : Nat) (w : World) (h0 : 0 ≤ n) (h1 : n ≤ 10) (hx : Rd w a1 es) :
    Calls Try.prog 147 #[.agg #[.int .i64 n, .slice a len cap], .slice a1 es.length cap1] w fun e w' => e = .returned (.bool (difB n es)) ∧ Below w.heap.size w w' := by
  have hlen := hx.len
  go_enter Try.func147, Try.ntmps147
  go_wp2_with fail
  go_loopw [5, 10] (fun s i wr => ∃ k : Nat, k ≤ es.length ∧ i = .int .i64 k ∧ s = .int .i64 (setTo es k) ∧ (∀ j, j < k → okN n es j = true) ∧ Below w.heap.size w wr ∧ Box2 wr w.heap.size (.int .i64 n) (.slice a len cap)) (fun _ i _ => es.length - (intOf i).toNat)
  case atStart => exact ⟨0, Nat.zero_le _, rfl, rfl, fun j hj => by omega, (by repeat (first | exact Below.refl _ _ | assumption | refine Below.alloc ?_ (by first | exact Nat.le_refl _ | (simp only [World.size_alloc, World.size_setCell, World.size_drew]; omega) | omega) _ | refine Below.setCell ?_ (by first | exact Nat.le_refl _ | (simp only [World.size_alloc, World.size_setCell, World.size_drew]; omega) | omega) _ | refine Below.drew ?_)), Box2.new _ _ _ _⟩
  case round =>
    obtain ⟨k, hk, rfl, rfl, hall, hb, hB⟩ := hrel
    have HA := Lib.hid hall
    have ⟨zB, cB, dB⟩ := hB
    by_cases hlt : k < es.length
    · obtain ⟨b, off, rfl, hbl, hc⟩ := (hx.below hb).cell k hlt
      cases hel : elemB (nth es k) n
      · have HN := Lib.hid (difB_no (n := n) hlt (show okN n es k = false by simp [okN, hel]))
        clear hall
        go_wp2_with fail
        refine (isElement_any _ _ _ _ _ _).mono ?_
        rintro e w2 ⟨rfl, hb2⟩
        go_wp2_with fail
        go_ret
        exact ⟨ret_bool HN.out.symm, hb.trans (hb2.mono hb.size)⟩
      · have ⟨e0, e1⟩ := elemB_iff.1 hel
        have hs : setTo es k < 2 ^ 10 := setTo_lt k (fun i hi => by have := okN_elem (hall i hi); omega)
        have hs0 : (0 : Int) ≤ ((setTo es k : Nat) : Int) := by omega
        have hs1 : ((setTo es k : Nat) : Int) ≤ 9223372036854775807 := by omega
        cases hin : hasB ((setTo es k : Nat) : Int) (nth es k)
        · have hyes : okN n es k = true := by
            simp only [okN, hel, Bool.true_and]
            simp only [hasB, Int.toNat_natCast] at hin
            rw [hin]; rfl
          have HN := Lib.hid hyes
          obtain ⟨x, hx'⟩ := Int.eq_ofNat_of_zero_le e0
          have hor := or_bit (b := setTo es k) (k := x) (by omega) (by omega)
          have HO := Lib.hid hor
          have HX := Lib.hid hx'
          rw [hx'] at hc hel hin
          have hx0 : (0 : Int) ≤ (x : Int) := by omega
          have hx1 : (x : Int) < 10 := by omega
          clear hall hor hs hx' hyes e0 e1
          go_wp2_with fail
          refine (isElement_any _ _ _ _ _ _).mono ?_
          rintro e w2 ⟨rfl, hb2⟩
          go_wp2_with fail
          refine (hasElement_any _ _ _ hs0 hs1 hx0).mono ?_
          rintro e w' ⟨rfl, rfl⟩
          go_wp2_with fail
          go_roundw
          case rel =>
            refine ⟨k + 1, by omega, by go_num, val_int (by rw [HO.out, setTo, HX.out]; rfl), fun j hj => ?_, hb.trans (hb2.mono hb.size), hB.below hb2⟩
            by_cases e : j = k
            · rw [e]; exact HN.out
            · exact HA.out j (by omega)
          case measure => simp [intOf]; omega
        · have hno : okN n es k = false := by
            simp only [okN, hel, Bool.true_and]
            simp only [hasB, Int.toNat_natCast] at hin
            rw [hin]; rfl
          have HN := Lib.hid (difB_no (n := n) hlt hno)
          clear hall hs hno
          go_wp2_with fail
          refine (isElement_any _ _ _ _ _ _).mono ?_
          rintro e w2 ⟨rfl, hb2⟩
          go_wp2_with fail
          refine (hasElement_any _ _ _ hs0 hs1 e0).mono ?_
          rintro e w' ⟨rfl, rfl⟩
          go_wp2_with fail
          go_ret
          exact ⟨ret_bool HN.out.symm, hb.trans (hb2.mono hb.size)⟩
    · obtain rfl : k = es.length := by omega
      have HN := Lib.hid (difB_iff.2 HA.out)
      clear hall
      go_wp2_with fail
      go_ret
      exact ⟨ret_bool HN.out.symm, hb⟩

theorem hasEachOnce_any (n : Int) (a : Option Addr) (len cap : Nat) (a1 : Option Addr) (es : List Int) (cap1 : Nat) (w : World) (h0 : 0 ≤ n) (h1 : n ≤ 10) (hx : Rd w a1 es) :
    Calls Try.prog 80 #[.agg #[.int .i64 n, .slice a len cap], .slice a1 es.length cap1] w fun e w' => e = .returned (.bool (permB n es)) ∧ Below w.heap.size w w' := by
  by_cases hl : (es.length : Int) = n
  · have hl' : ((es.length : Int) == n) = true := by simp [hl]
    have HN : Hid (permB n es = difB n es) := by simp [Hid, permB, difB, hl]
    clear hl
    go_enter Try.func80, Try.ntmps80
    go_wp2_with fail
    refine (areDiff_any _ _ _ _ _ _ _ _ h0 h1 (hx.below (by repeat (first | exact Below.refl _ _ | assumption | refine Below.alloc ?_ (by first | exact Nat.le_refl _ | (simp only [World.size_alloc, World.size_setCell, World.size_drew]; omega) | omega) _ | refine Below.setCell ?_ (by first | exact Nat.le_refl _ | (simp only [World.size_alloc, World.size_setCell, World.size_drew]; omega) | omega) _ | refine Below.drew ?_)))).mono ?_
    rintro e w2 ⟨rfl, hb2⟩
    go_wp2_with fail
    go_ret
    exact ⟨ret_bool HN.out.symm, Below.trans (by repeat (first | exact Below.refl _ _ | assumption | refine Below.alloc ?_ (by first | exact Nat.le_refl _ | (simp only [World.size_alloc, World.size_setCell, World.size_drew]; omega) | omega) _ | refine Below.setCell ?_ (by first | exact Nat.le_refl _ | (simp only [World.size_alloc, World.size_setCell, World.size_drew]; omega) | omega) _ | refine Below.drew ?_)) (hb2.mono (by first | (simp only [World.size_alloc, World.size_setCell, World.size_drew]; omega) | omega))⟩
  · have hl' : ((es.length : Int) == n) = false := by simp [hl]
    have HN : Hid (permB n es = false) := by simp [Hid, permB, hl]
    clear hl
    go_enter Try.func80, Try.ntmps80
    go_wp2_with fail
    go_ret
    exact ⟨ret_bool HN.out.symm, (by repeat (first | exact Below.refl _ _ | assumption | refine Below.alloc ?_ (by first | exact Nat.le_refl _ | (simp only [World.size_alloc, World.size_setCell, World.size_drew]; omega) | omega) _ | refine Below.setCell ?_ (by first | exact Nat.le_refl _ | (simp only [World.size_alloc, World.size_setCell, World.size_drew]; omega) | omega) _ | refine Below.drew ?_))⟩

theorem iRenameOf_any (n : Int) (a : Option Addr) (xs : List Int) (cap : Nat) (a1 : Option Addr) (es : List Int) (cap1 : Nat) (w : World) (hn : -9223372036854775808 ≤ n ∧ n ≤ 9223372036854775807) (hx : Rd w a xs) (hy : Rd w a1 es) :
    Calls Try.prog 16 #[.agg #[.int .i64 n, .slice a xs.length cap], .slice a1 es.length cap1] w (GotO w (renN n xs es) (renL n xs es) (okR n xs es)) := by
  have hx1 := (hx.alloc (.cells #[.int .i64 n, .slice a xs.length cap] 26)).alloc (.cells #[.int .i64 0, .slice none 0 0] 26)
  obtain ⟨i0, hi, hz0, hz1, hz2⟩ := info_parts infoInt
  cases hr : relB n xs
  · have H0 : Hid (okR n xs es = false) := by simp [Hid, okR, hr]
    have H1 : Hid (renN n xs es = 0) := by simp [Hid, renN, H0.out]
    have H2 : Hid (renL n xs es = []) := by simp [Hid, renL, H0.out]
    go_enter Try.func16, Try.ntmps16
    go_wp2_with fail
    refine (iIsRelation_any _ _ _ _ _ hn hx1).mono ?_
    rintro e w1 ⟨rfl, hb1⟩
    have hz := hb1.size
    simp only [World.size_alloc] at hz
    obtain ⟨hc, hf⟩ := bcell hb1
    have bw1 : Below w.heap.size w w1 := Below.trans (by repeat (first | exact Below.refl _ _ | assumption | refine Below.alloc ?_ (by first | exact Nat.le_refl _ | (simp only [World.size_alloc, World.size_setCell, World.size_drew]; omega) | omega) _ | refine Below.setCell ?_ (by first | exact Nat.le_refl _ | (simp only [World.size_alloc, World.size_setCell, World.size_drew]; omega) | omega) _ | refine Below.drew ?_)) (hb1.mono (by first | (simp only [World.size_alloc, World.size_setCell, World.size_drew]; omega) | omega))
    go_wp2_with fail
    refine bodyPost_ret (v := .tuple #[.agg #[.int .i64 0, .slice none 0 0], .bool false]) (by simp [results, Try.results16, go_sem, hc]) rfl ?_
    refine ⟨none, 0, ?_, ?_, ?_⟩
    · rw [H0.out, H1.out, H2.out]; rfl
    · rw [H2.out]; exact OwnI.nil _ _
    · exact (bw1.setCell (by simp) _).setCell (by simp) _
  · have hp := relB_p hr
    have hn0 := hp.n0
    have hn1 := hp.n1
    cases hpm : permB n es
    · have H0 : Hid (okR n xs es = false) := by simp [Hid, okR, hpm]
      have H1 : Hid (renN n xs es = 0) := by simp [Hid, renN, H0.out]
      have H2 : Hid (renL n xs es = []) := by simp [Hid, renL, H0.out]
      go_enter Try.func16, Try.ntmps16
      go_wp2_with fail
      refine (iIsRelation_any _ _ _ _ _ hn hx1).mono ?_
      rintro e w1 ⟨rfl, hb1⟩
      have A1 : Box2 w1 w.heap.size (.int .i64 n) (.slice a xs.length cap) := ((Box2.new w _ _ _).below ((Below.refl _ _).alloc (Nat.le_refl _) _)).below hb1
      have R1 : Var2 w1 (w.heap.size + 1) (.int .i64 0) (.slice none 0 0) := by
        have := (Var2.new (w.alloc (.cells #[.int .i64 n, .slice a xs.length cap] 26)) (.int .i64 0) (.slice none 0 0) 26).below hb1
        simpa using this
      have ⟨zA, cA, dA⟩ := A1
      have bw1 : Below w.heap.size w w1 := Below.trans (by repeat (first | exact Below.refl _ _ | assumption | refine Below.alloc ?_ (by first | exact Nat.le_refl _ | (simp only [World.size_alloc, World.size_setCell, World.size_drew]; omega) | omega) _ | refine Below.setCell ?_ (by first | exact Nat.le_refl _ | (simp only [World.size_alloc, World.size_setCell, World.size_drew]; omega) | omega) _ | refine Below.drew ?_)) (hb1.mono (by first | (simp only [World.size_alloc, World.size_setCell, World.size_drew]; omega) | omega))
      clear hb1
      go_wp2_with fail
      refine (hasEachOnce_any _ _ _ _ _ _ _ _ hn0 hn1 (hy.below bw1)).mono ?_
      rintro e w2 ⟨rfl, hb2⟩
      have R2 := R1.below hb2
      have ⟨⟨zR, cR, dR⟩, fR, gR⟩ := R2
      have bw2 := bw1.trans (hb2.mono bw1.size)
      go_wp2_with fail
      have R3 := R2.set (.int .i64 0) (.slice none 0 0)
      refine bodyPost_ret (v := .tuple #[.agg #[.int .i64 0, .slice none 0 0], .bool false]) (by have ⟨⟨_, q1, q2⟩, _, _⟩ := R3; simp [results, Try.results16, go_sem, q1, q2]) rfl ?_
      refine ⟨none, 0, ?_, ?_, ?_⟩
      · rw [H0.out, H1.out, H2.out]; rfl
      · rw [H2.out]; exact OwnI.nil _ _
      · exact (bw2.setCell (by simp) _).setCell (by simp) _
    · have H0 : Hid (okR n xs es = true) := by simp [Hid, okR, hr, hpm]
      have H1 : Hid (renN n xs es = n) := by simp [Hid, renN, H0.out]
      have H2 : Hid (renL n xs es = rens xs es) := by simp [Hid, renL, H0.out]
      have hle : (es.length : Int) = n := (permB_iff.1 hpm).1
      have hlx : (xs.length : Int) = n := hp.len
      obtain rfl : n = (es.length : Int) := hle.symm
      have hll : xs.length = es.length := by omega
      have HLL := Lib.hid hll
      have hl10 : es.length ≤ 10 := by omega
      have hl10x : xs.length ≤ 10 := by omega
      have hxe : ∀ k, k < xs.length → k < es.length := fun k hk => by omega
      have hex : ∀ k, k < es.length → k < xs.length := fun k hk => by omega
      have HXE := Lib.hid hxe
      have HEX := Lib.hid hex
      have HPM := Lib.hid hpm
      clear hle hlx hll hxe hex
      go_enter Try.func16, Try.ntmps16
      go_wp2_with fail
      refine (iIsRelation_any _ _ _ _ _ hn hx1).mono ?_
      rintro e w1 ⟨rfl, hb1⟩
      have A1 : Box2 w1 w.heap.size (.int .i64 (es.length : Int)) (.slice a xs.length cap) := ((Box2.new w _ _ _).below ((Below.refl _ _).alloc (Nat.le_refl _) _)).below hb1
      have R1 : Var2 w1 (w.heap.size + 1) (.int .i64 0) (.slice none 0 0) := by
        have := (Var2.new (w.alloc (.cells #[.int .i64 (es.length : Int), .slice a xs.length cap] 26)) (.int .i64 0) (.slice none 0 0) 26).below hb1
        simpa using this
      have ⟨zA, cA, dA⟩ := A1
      have bw1 : Below w.heap.size w w1 := Below.trans (by repeat (first | exact Below.refl _ _ | assumption | refine Below.alloc ?_ (by first | exact Nat.le_refl _ | (simp only [World.size_alloc, World.size_setCell, World.size_drew]; omega) | omega) _ | refine Below.setCell ?_ (by first | exact Nat.le_refl _ | (simp only [World.size_alloc, World.size_setCell, World.size_drew]; omega) | omega) _ | refine Below.drew ?_)) (hb1.mono (by first | (simp only [World.size_alloc, World.size_setCell, World.size_drew]; omega) | omega))
      clear hb1
      go_wp2_with fail
      refine (hasEachOnce_any _ _ _ _ _ _ _ _ hn0 hn1 (hy.below bw1)).mono ?_
      rintro e w2 ⟨rfl, hb2⟩
      have A2 := A1.below hb2
      have R2 := R1.below hb2
      have bw2 := bw1.trans (hb2.mono bw1.size)
      have hz2' : w.heap.size + 2 ≤ w2.heap.size := by have := R2.1.1; omega
      have ⟨zA2, cA2, dA2⟩ := A2
      clear A1 R1 cA dA hb2
      go_wp2_with (at_make; refine wpList_make_full _ rfl (.tmp 22) (.tmp 22) 24 rfl (w.heap.size + 2) 3 i0 (.int .i64 0) 1 Try.underlying24 hi hz0 hz1 .i64 .i64 _ _ es.length rfl rfl rfl rfl (by rw [hz2]; omega) (by unfold maxLen; omega) hz2' ?_; intro w3 hown hgrow; have A3 := A2.kept hgrow (by simp); have ⟨zA3, cA3, dA3⟩ := A3)
      have R3 := R2.kept hgrow (by simp)
      have bw3 : Below w.heap.size w w3 := bw2.grown hgrow bw2.size (fun k h => by cases h)
      have hown0 := made_row (fun _ => 0) hown
      rw [← renRow_start xs es] at hown0
      obtain ⟨g, hg⟩ : ∃ g, g = w2.heap.size := ⟨_, rfl⟩
      rw [← hg] at hown0 ⊢
      have hgz : w.heap.size + 2 ≤ g := by omega
      clear hown hgrow A2 R2 hg cA2 dA2
      go_wp2_with fail
      clear hr hpm
      go_loopw [27] (fun i wr => ∃ k : Nat, k ≤ xs.length ∧ i = .int .i64 k ∧ OwnI wr (w.heap.size + 2) (.slice (some ⟨g, 0, none⟩) es.length es.length) (renRow xs es k) ∧ Below w.heap.size w wr ∧ Box2 wr w.heap.size (.int .i64 (es.length : Int)) (.slice a xs.length cap) ∧ Var2 wr (w.heap.size + 1) (.int .i64 0) (.slice none 0 0)) (fun i _ => xs.length - (intOf i).toNat)
      case atStart => exact ⟨0, Nat.zero_le _, rfl, hown0, bw3, A3, R3⟩
      case round =>
        obtain ⟨k, hk, rfl, hown, hb, hA, hR⟩ := hrel
        by_cases hlt : k < xs.length
        · have hlt' := HXE.out k hlt
          obtain ⟨b1, off1, rfl, hbl1, hc1⟩ := (hx.below hb).cell k hlt
          obtain ⟨y, hye⟩ := Int.eq_ofNat_of_zero_le (okN_elem ((permB_iff.1 HPM.out).2 k hlt')).1
          have hyl : y < es.length := by have := (okN_elem ((permB_iff.1 HPM.out).2 k hlt')).2; omega
          have HE := Lib.hid hye
          have s0 := hp.pos k hlt
          have s1 := hp.small k hlt
          have s2 : nth xs k ≤ 9223372036854775807 := by omega
          clear hye
          go_wp2_with fail
          go_loopw [34] (fun i' wi => ∃ j : Nat, j ≤ es.length ∧ i' = .int .i64 j ∧ OwnI wi (w.heap.size + 2) (.slice (some ⟨g, 0, none⟩) es.length es.length) ((renRow xs es k).set y ((renTo es (nth xs k) j : Nat) : Int)) ∧ Below w.heap.size w wi ∧ Box2 wi w.heap.size (.int .i64 (es.length : Int)) (.slice (some ⟨b1, off1, none⟩) xs.length cap) ∧ Var2 wi (w.heap.size + 1) (.int .i64 0) (.slice none 0 0)) (fun i _ => es.length - (intOf i).toNat)
          case atStart => exact ⟨0, Nat.zero_le _, rfl, by rw [renTo, show (((0 : Nat) : Nat) : Int) = 0 from rfl, renRow_zero HPM.out hlt' HE.out]; exact hown, hb, hA, hR⟩
          case round =>
            obtain ⟨j, hj, rfl, hown, hb, hA, hR⟩ := hrel
            by_cases hjl : j < es.length
            · obtain ⟨b2, off2, rfl, hbl2, hc2⟩ := (hy.below hb).cell j hjl
              obtain ⟨b3, off3, e3, hbl3, hc3⟩ := (hy.below hb).cell k hlt'
              simp only [Option.some.injEq, Addr.mk.injEq, and_true] at e3
              obtain ⟨rfl, rfl⟩ := e3
              rw [HE.out] at hc3
              obtain ⟨m, hme⟩ := Int.eq_ofNat_of_zero_le (okN_elem ((permB_iff.1 HPM.out).2 j hjl)).1
              have hml : m < es.length := by have := (okN_elem ((permB_iff.1 HPM.out).2 j hjl)).2; omega
              obtain ⟨row, hrow⟩ : ∃ row, row = (renRow xs es k).set y ((renTo es (nth xs k) j : Nat) : Int) := ⟨_, rfl⟩
              have hrl : row.length = es.length := by rw [hrow, List.length_set, renRow_len]
              have hrk : nth row y = ((renTo es (nth xs k) j : Nat) : Int) := by rw [hrow, nth_set (by rw [renRow_len]; exact hyl), if_pos rfl]
              have hrs : ∀ z, row.set y z = (renRow xs es k).set y z := by intro z; rw [hrow, List.set_set]
              rw [← hrow] at hown
              have ⟨ci, fi⟩ := hown.at' hrl.symm (i := y) (by omega)
              rw [hrk] at ci
              have hput := hown.put hrl.symm y ((renTo es (nth xs k) j ||| 2 ^ m : Nat) : Int)
              rw [hrs] at hput
              have hps := renTo_lt HPM.out hn1 (nth xs k) j hj
              have hor := or_bit (b := renTo es (nth xs k) j) (k := m) (by omega) (by omega)
              have HO := Lib.hid hor
              have HP := Lib.hid hput
              have HR := Lib.hid hrow
              have HM := Lib.hid hme
              rw [hme] at hc2
              have k0 : (0 : Int) ≤ (k : Int) := by omega
              have k1 : (k : Int) < (es.length : Int) := by omega
              have y0 : (0 : Int) ≤ (y : Int) := by omega
              have y1 : (y : Int) < (es.length : Int) := by omega
              have j0 : (0 : Int) ≤ (j : Int) := by omega
              have m0 : (0 : Int) ≤ (m : Int) := by omega
              have m1 : (m : Int) < 62 := by omega
              clear hor hps hme hput hrow hrl hrk hrs
              cases hhas : hasB (nth xs k) j
              · go_wp2_with fail
                refine (hasElement_any _ _ _ s0 s2 j0).mono ?_
                rintro e w' ⟨rfl, rfl⟩
                go_wp2_with fail
                go_roundw
                case rel => exact ⟨j + 1, by omega, by go_num, by rw [HR.out] at hown; simpa [renTo, hhas] using hown, hb, hA, hR⟩
                case measure => simp [intOf]; omega
              · go_wp2_with fail
                refine (hasElement_any _ _ _ s0 s2 j0).mono ?_
                rintro e w' ⟨rfl, rfl⟩
                go_wp2_with fail
                go_region
                all_goals
                  go_wp2_with fail
                  go_roundw
                  case rel =>
                    rw [HO.out]
                    refine ⟨j + 1, by omega, by go_num, ?_, (hb.setCell (p := ⟨g, y, none⟩) (show w.heap.size ≤ g by omega) _).drew, hA.set (p := ⟨g, y, none⟩) _ (show w.heap.size ≠ g by omega), hR.other (p := ⟨g, y, none⟩) _ (show w.heap.size + 1 ≠ g by omega)⟩
                    have := HP.out.1
                    simp only [renTo, hhas, if_true, HM.out, Int.toNat_natCast]
                    exact this
                  case measure => simp [intOf]; omega
            · obtain rfl : j = es.length := by omega
              rw [renRow_next HPM.out hlt' HE.out] at hown
              have HN := Lib.hid hown
              clear hown
              go_wp2_with fail
              go_roundw
              case rel => exact ⟨k + 1, by omega, by go_num, HN.out, hb, hA, hR⟩
              case measure => simp [intOf]; omega
        · obtain rfl : k = xs.length := by omega
          have ⟨⟨zR, cR, dR⟩, fR, gR⟩ := hR
          have ⟨zA, cA, dA⟩ := hA
          rw [HLL.out, renRow_end HPM.out] at hown
          go_wp2_with fail
          have R3 := hR.set (.int .i64 (es.length : Int)) (.slice (some ⟨g, 0, none⟩) es.length es.length)
          refine bodyPost_ret (v := .tuple #[.agg #[.int .i64 (es.length : Int), .slice (some ⟨g, 0, none⟩) es.length es.length], .bool true]) (by have ⟨⟨_, q1, q2⟩, _, _⟩ := R3; simp [results, Try.results16, go_sem, q1, q2]) rfl ?_
          refine ⟨some ⟨g, 0, none⟩, es.length, ?_, ?_, ?_⟩
          · rw [H0.out, H1.out, H2.out, rens, fmap_len]
          · rw [H2.out, rens, fmap_len]
            exact ((hown.setBelow (p := ⟨w.heap.size + 1, 0, none⟩) (show w.heap.size + 1 < w.heap.size + 2 by omega) _).setBelow (p := ⟨w.heap.size + 1, 1, none⟩) (show w.heap.size + 1 < w.heap.size + 2 by omega) _).mono (by omega)
          · exact (hb.setCell (p := ⟨w.heap.size + 1, 0, none⟩) (show w.heap.size ≤ w.heap.size + 1 by omega) _).setCell (p := ⟨w.heap.size + 1, 1, none⟩) (show w.heap.size ≤ w.heap.size + 1 by omega) _

theorem orPlace_any (n : Int) (a : Option Addr) (es : List Int) (cap : Nat) (x : Nat) (w : World) (hx : Rd w a es) (h : permB n es = true) (hlt : x < es.length) :
    Calls Try.prog 82 #[.slice a es.length cap, .int .i64 x] w fun e w' => e = .returned (.int .i64 ((pl es x : Nat) : Int)) ∧ w = w' := by
  have hlen := hx.len
  have hpl := pl_spec h hlt
  have hinj : ∀ k, k < es.length → nth es k = (x : Int) → k = pl es x := fun k hk e => perm_inj h hk hpl.1 (by rw [hpl.2, e])
  have HI := Lib.hid hinj
  have HP := Lib.hid hpl
  have hplt := hpl.1
  clear hinj hpl h
  go_enter Try.func82, Try.ntmps82
  go_wp2_with fail
  go_loop [9] (fun i => ∃ k : Nat, k ≤ pl es x ∧ i = .int .i64 k) (fun i => es.length - (intOf i).toNat)
  case atStart => exact ⟨0, Nat.zero_le _, rfl⟩
  case round =>
    obtain ⟨k, hk, rfl⟩ := hrel
    have hkl : k < es.length := by omega
    obtain ⟨b, off, rfl, hbl, hc⟩ := hx.cell k hkl
    by_cases e : nth es k = (x : Int)
    · have hq : (nth es k == (x : Int)) = true := by simp [e]
      have HK := Lib.hid (HI.out k hkl e)
      clear e
      go_wp2_with fail
      go_ret
      exact ⟨ret_int (by rw [← HK.out]), rfl⟩
    · have hq : (nth es k == (x : Int)) = false := by simpa using e
      have hk2 : k < pl es x := by
        rcases Nat.lt_or_eq_of_le hk with h1 | h1
        · exact h1
        · exact absurd (by rw [h1]; exact HP.out.2) e
      clear e
      go_wp2_with fail
      go_round
      case rel => exact ⟨k + 1, by omega, by go_num⟩
      case measure => simp [intOf]; omega

theorem sRenameOf_any (n : Int) (a : Option Addr) (xs : List Int) (cap : Nat) (a1 : Option Addr) (es : List Int) (cap1 : Nat) (w : World) (hn : -9223372036854775808 ≤ n ∧ n ≤ 9223372036854775807) (hx : Rd w a xs) (hy : Rd w a1 es) :
    Calls Try.prog 17 #[.agg #[.int .i64 n, .slice a xs.length cap], .slice a1 es.length cap1] w (GotO w (renN n xs es) (renL n xs es) (okR n xs es)) := by
  have hx1 := (hx.alloc (.cells #[.int .i64 n, .slice a xs.length cap] 26)).alloc (.cells #[.int .i64 0, .slice none 0 0] 26)
  obtain ⟨i0, hi, hz0, hz1, hz2⟩ := info_parts infoInt
  cases hr : relB n xs
  · have H0 : Hid (okR n xs es = false) := by simp [Hid, okR, hr]
    have H1 : Hid (renN n xs es = 0) := by simp [Hid, renN, H0.out]
    have H2 : Hid (renL n xs es = []) := by simp [Hid, renL, H0.out]
    go_enter Try.func17, Try.ntmps17
    go_wp2_with fail
    refine (orRelation_any _ _ _ _ _ hx1).mono ?_
    rintro e w1 ⟨rfl, hb1⟩
    have hz := hb1.size
    simp only [World.size_alloc] at hz
    obtain ⟨hc, hf⟩ := bcell hb1
    have bw1 : Below w.heap.size w w1 := Below.trans (by repeat (first | exact Below.refl _ _ | assumption | refine Below.alloc ?_ (by first | exact Nat.le_refl _ | (simp only [World.size_alloc, World.size_setCell, World.size_drew]; omega) | omega) _ | refine Below.setCell ?_ (by first | exact Nat.le_refl _ | (simp only [World.size_alloc, World.size_setCell, World.size_drew]; omega) | omega) _ | refine Below.drew ?_)) (hb1.mono (by first | (simp only [World.size_alloc, World.size_setCell, World.size_drew]; omega) | omega))
    go_wp2_with fail
    refine bodyPost_ret (v := .tuple #[.agg #[.int .i64 0, .slice none 0 0], .bool false]) (by simp [results, Try.results17, go_sem, hc]) rfl ?_
    refine ⟨none, 0, ?_, ?_, ?_⟩
    · rw [H0.out, H1.out, H2.out]; rfl
    · rw [H2.out]; exact OwnI.nil _ _
    · exact (bw1.setCell (by simp) _).setCell (by simp) _
  · have hp := relB_p hr
    have hn0 := hp.n0
    have hn1 := hp.n1
    cases hpm : permB n es
    · have H0 : Hid (okR n xs es = false) := by simp [Hid, okR, hpm]
      have H1 : Hid (renN n xs es = 0) := by simp [Hid, renN, H0.out]
      have H2 : Hid (renL n xs es = []) := by simp [Hid, renL, H0.out]
      go_enter Try.func17, Try.ntmps17
      go_wp2_with fail
      refine (orRelation_any _ _ _ _ _ hx1).mono ?_
      rintro e w1 ⟨rfl, hb1⟩
      have A1 : Box2 w1 w.heap.size (.int .i64 n) (.slice a xs.length cap) := ((Box2.new w _ _ _).below ((Below.refl _ _).alloc (Nat.le_refl _) _)).below hb1
      have R1 : Var2 w1 (w.heap.size + 1) (.int .i64 0) (.slice none 0 0) := by
        have := (Var2.new (w.alloc (.cells #[.int .i64 n, .slice a xs.length cap] 26)) (.int .i64 0) (.slice none 0 0) 26).below hb1
        simpa using this
      have ⟨zA, cA, dA⟩ := A1
      have bw1 : Below w.heap.size w w1 := Below.trans (by repeat (first | exact Below.refl _ _ | assumption | refine Below.alloc ?_ (by first | exact Nat.le_refl _ | (simp only [World.size_alloc, World.size_setCell, World.size_drew]; omega) | omega) _ | refine Below.setCell ?_ (by first | exact Nat.le_refl _ | (simp only [World.size_alloc, World.size_setCell, World.size_drew]; omega) | omega) _ | refine Below.drew ?_)) (hb1.mono (by first | (simp only [World.size_alloc, World.size_setCell, World.size_drew]; omega) | omega))
      clear hb1
      go_wp2_with fail
      refine (orNames_any _ _ _ _ _ (hy.below bw1) hn0 hn1).mono ?_
      rintro e w2 ⟨rfl, hb2⟩
      have R2 := R1.below hb2
      have ⟨⟨zR, cR, dR⟩, fR, gR⟩ := R2
      have bw2 := bw1.trans (hb2.mono bw1.size)
      go_wp2_with fail
      have R3 := R2.set (.int .i64 0) (.slice none 0 0)
      refine bodyPost_ret (v := .tuple #[.agg #[.int .i64 0, .slice none 0 0], .bool false]) (by have ⟨⟨_, q1, q2⟩, _, _⟩ := R3; simp [results, Try.results17, go_sem, q1, q2]) rfl ?_
      refine ⟨none, 0, ?_, ?_, ?_⟩
      · rw [H0.out, H1.out, H2.out]; rfl
      · rw [H2.out]; exact OwnI.nil _ _
      · exact (bw2.setCell (by simp) _).setCell (by simp) _
    · have H0 : Hid (okR n xs es = true) := by simp [Hid, okR, hr, hpm]
      have H1 : Hid (renN n xs es = n) := by simp [Hid, renN, H0.out]
      have H2 : Hid (renL n xs es = parts xs (olds es es.length) es.length) := by simp [Hid, renL, H0.out, ren_parts hpm]
      have hel := olds_elems hp hpm
      have HLN := Lib.hid (permB_iff.1 hpm).1
      have hl10 : es.length ≤ 10 := by have := (permB_iff.1 hpm).1; omega
      have HPM := Lib.hid hpm
      go_enter Try.func17, Try.ntmps17
      go_wp2_with fail
      refine (orRelation_any _ _ _ _ _ hx1).mono ?_
      rintro e w1 ⟨rfl, hb1⟩
      have A1 : Box2 w1 w.heap.size (.int .i64 n) (.slice a xs.length cap) := ((Box2.new w _ _ _).below ((Below.refl _ _).alloc (Nat.le_refl _) _)).below hb1
      have R1 : Var2 w1 (w.heap.size + 1) (.int .i64 0) (.slice none 0 0) := by
        have := (Var2.new (w.alloc (.cells #[.int .i64 n, .slice a xs.length cap] 26)) (.int .i64 0) (.slice none 0 0) 26).below hb1
        simpa using this
      have ⟨zA, cA, dA⟩ := A1
      have bw1 : Below w.heap.size w w1 := Below.trans (by repeat (first | exact Below.refl _ _ | assumption | refine Below.alloc ?_ (by first | exact Nat.le_refl _ | (simp only [World.size_alloc, World.size_setCell, World.size_drew]; omega) | omega) _ | refine Below.setCell ?_ (by first | exact Nat.le_refl _ | (simp only [World.size_alloc, World.size_setCell, World.size_drew]; omega) | omega) _ | refine Below.drew ?_)) (hb1.mono (by first | (simp only [World.size_alloc, World.size_setCell, World.size_drew]; omega) | omega))
      clear hb1
      go_wp2_with fail
      refine (orNames_any _ _ _ _ _ (hy.below bw1) hn0 hn1).mono ?_
      rintro e w2 ⟨rfl, hb2⟩
      have A2 := A1.below hb2
      have R2 := R1.below hb2
      have bw2 := bw1.trans (hb2.mono bw1.size)
      clear A1 R1 cA dA hb2
      go_wp2_with fail
      clear hr hpm
      go_loopw [6, 21] (fun v i wr => ∃ k : Nat, k ≤ es.length ∧ i = .int .i64 k ∧ OwnI wr (w.heap.size + 2) v (olds es k) ∧ Below w.heap.size w wr ∧ Box2 wr w.heap.size (.int .i64 n) (.slice a xs.length cap) ∧ Var2 wr (w.heap.size + 1) (.int .i64 0) (.slice none 0 0)) (fun _ i _ => es.length - (intOf i).toNat)
      case atStart => exact ⟨0, Nat.zero_le _, rfl, OwnI.nil _ _, bw2, A2, R2⟩
      case round =>
        obtain ⟨k, hk, rfl, hown, hb, hA, hR⟩ := hrel
        have hyr := hy.below hb
        have hzr : w.heap.size + 2 ≤ wr.heap.size := by have := hR.1.1; omega
        obtain ⟨av, capv, rfl⟩ := hown.form
        rw [olds_len] at hown ⊢
        by_cases hlt : k < es.length
        · go_wp2_with fail
          refine (orPlace_any _ _ _ _ _ _ hyr HPM.out hlt).mono ?_
          rintro e w' ⟨rfl, rfl⟩
          go_wp2_with (at_builtin; refine wpList_append_own _ rfl _ _ 24 rfl (w.heap.size + 2) 3 i0 (.int .i64 0) 1 8 Try.underlying24 hi hz0 hz1 hz2 rfl (by decide) (.slice av k capv) k ((olds es k).map (Value.int .i64)) rfl (by have h := hown.alloc (.cells #[.int .i64 ((pl es k : Nat) : Int)] 3); unfold OwnI at h; rw [olds_len] at h; exact h) ⟨wr.heap.size, 0, none⟩ 1 1 [.int .i64 ((pl es k : Nat) : Int)] rfl rfl (cell_one_new _ _ _) (by intro u hu; simp at hu; subst hu; rfl) (by unfold maxLen; omega) (by omega) (by simp; omega) ?_)
          intro v' w3 hown3 hgrow _
          have hg2 := grown_alloc_set hgrow
          have o3 : OwnI w3 (w.heap.size + 2) v' (olds es (k + 1)) := by
            unfold OwnI
            rw [olds_len, olds, fmap_succ, List.map_append]
            exact hown3
          have hU := hown.lt
          have A3 := hA.kept hg2 (ne_own (fun c e => by have := hU c e; omega))
          have R3 := hR.kept hg2 (ne_own (fun c e => by have := hU c e; omega))
          have bw3 := hb.trans (below_of_grown hg2 (fun c e => by have := hU c e; omega) hb.size)
          obtain ⟨a3, cap3, rfl⟩ := o3.form
          clear hown3 hgrow hU
          go_wp2_with fail
          go_roundw
          case rel => exact ⟨k + 1, by omega, by go_num, o3, bw3, A3, R3⟩
          case measure => simp [intOf]; omega
        · obtain rfl : k = es.length := by omega
          have ⟨zA, cA, dA⟩ := hA
          have hro := hown.rd
          go_wp2_with fail
          have hcall := orPart_any n a xs cap av (olds es es.length) capv wr (hx.below hb) (fun k hk => ⟨hp.pos k hk, hp.small k hk⟩) hro hel
          rw [olds_len] at hcall
          refine hcall.mono ?_
          rintro e w4 ⟨a2, cap2, rfl, ho2, ht2⟩
          have R4 := hR.below ht2
          have ⟨⟨zR, cR, dR⟩, fR, gR⟩ := R4
          clear hcall
          go_wp2_with fail
          have R5 := R4.set (.int .i64 (es.length : Int)) (.slice a2 es.length cap2)
          refine bodyPost_ret (v := .tuple #[.agg #[.int .i64 (es.length : Int), .slice a2 es.length cap2], .bool true]) (by have ⟨⟨_, q1, q2⟩, _, _⟩ := R5; simp [results, Try.results17, go_sem, q1, q2]) rfl ?_
          refine ⟨a2, cap2, ?_, ?_, ?_⟩
          · rw [H0.out, H1.out, H2.out, parts_len, HLN.out]
          · rw [H2.out, parts_len]
            exact ((ho2.setBelow (p := ⟨w.heap.size + 1, 0, none⟩) (show w.heap.size + 1 < wr.heap.size by omega) _).setBelow (p := ⟨w.heap.size + 1, 1, none⟩) (show w.heap.size + 1 < wr.heap.size by omega) _).mono (show w.heap.size ≤ wr.heap.size by omega)
          · exact ((hb.trans (ht2.mono hb.size)).setCell (by simp) _).setCell (by simp) _

theorem ret_bb {a b c d : Bool} (h : a = b) (h2 : c = d) : Ending.returned (.tuple #[.bool a, .bool c]) = .returned (.tuple #[.bool b, .bool d]) := by rw [h, h2]
theorem ret_ib {a b : Int} {c d : Bool} (h : a = b) (h2 : c = d) : Ending.returned (.tuple #[.int .i64 a, .bool c]) = .returned (.tuple #[.int .i64 b, .bool d]) := by rw [h, h2]

def skOk (n : Int) (xs : List Int) (m : Int) (ys : List Int) : Bool := relB n xs && relB m ys && decide (n ≤ 6) && decide (m ≤ 6)
def skB (n : Int) (xs : List Int) (m : Int) (ys : List Int) : Bool := skOk n xs m ys && decide (n = m) && fpB n xs m ys

set_option maxRecDepth 100000 in
set_option maxHeartbeats 1000000 in
theorem iSame_any (n : Int) (a : Option Addr) (xs : List Int) (cap : Nat) (m : Int) (b : Option Addr) (ys : List Int) (cap2 : Nat) (w : World) (hn : -9223372036854775808 ≤ n ∧ n ≤ 9223372036854775807) (hx : Rd w a xs) (hm : -9223372036854775808 ≤ m ∧ m ≤ 9223372036854775807) (hy : Rd w b ys) :
    Calls Try.prog 19 #[.agg #[.int .i64 n, .slice a xs.length cap], .agg #[.int .i64 m, .slice b ys.length cap2]] w fun e w' => e = .returned (.tuple #[.bool (skB n xs m ys), .bool (skOk n xs m ys)]) ∧ Below w.heap.size w w' := by
  have hx1 := (hx.alloc (.cells #[.int .i64 n, .slice a xs.length cap] 26)).alloc (.cells #[.int .i64 m, .slice b ys.length cap2] 26)
  have HN := Lib.hid hn
  have HM := Lib.hid hm
  clear hn hm
  go_enter Try.func19, Try.ntmps19
  go_wp2_with fail
  refine (iIsRelation_any _ _ _ _ _ HN.out hx1).mono ?_
  rintro e w1 ⟨rfl, hb1⟩
  obtain ⟨A1, B1, bw1⟩ := boxes2 hb1
  clear hb1 hx1
  cases hg : relB n xs
  · have H0 : Hid (skOk n xs m ys = false) := by simp [Hid, skOk, hg]
    have H1 : Hid (skB n xs m ys = false) := by simp [Hid, skB, H0.out]
    clear hg
    go_wp2_with fail
    go_ret2
    exact ⟨ret_bb H1.out.symm H0.out.symm, bw1⟩
  · have hp := relB_p hg
    have HG := Lib.hid hg
    clear hg
    have ⟨zB, cB, dB⟩ := B1
    go_wp2_with fail
    refine (iIsRelation_any _ _ _ _ _ HM.out (hy.below bw1)).mono ?_
    rintro e w2 ⟨rfl, hb2⟩
    have bw2 : Below w.heap.size w w2 := bw1.trans (hb2.mono bw1.size)
    have A2 := A1.below hb2
    have B2 := B1.below hb2
    clear A1 B1 cB dB zB hb2 bw1
    have ⟨zA, cA, dA⟩ := A2
    have ⟨zB, cB, dB⟩ := B2
    have bs2 := bw2.size
    cases hh : relB m ys
    · have H0 : Hid (skOk n xs m ys = false) := by simp [Hid, skOk, hh]
      have H1 : Hid (skB n xs m ys = false) := by simp [Hid, skB, H0.out]
      clear hh
      go_wp2_with fail
      go_ret2
      exact ⟨ret_bb H1.out.symm H0.out.symm, bw2⟩
    · have hq := relB_p hh
      have HH := Lib.hid hh
      clear hh
      by_cases h6 : n ≤ 6
      · by_cases h7 : m ≤ 6
        · have H0 : Hid (skOk n xs m ys = true) := by simp [Hid, skOk, HG.out, HH.out, h6, h7]
          have HY := Lib.hid (fp_yes (n := n) (xs := xs) (m := m) (ys := ys) (by simp [fpOk, HG.out, HH.out, h7]))
          by_cases hs : n = m
          · subst hs
            have hne : (n != n) = false := by simp
            have H1 : Hid (skB n xs n ys = fpB n xs n ys) := by simp only [Hid, skB, H0.out, decide_true, Bool.true_and]
            have HC := Lib.hid (iFind_any n a xs cap n b ys cap2 w2 HN.out (hx.below bw2) HM.out (hy.below bw2))
            clear HY
            go_wp2_with fail
            refine HC.out.mono ?_
            rintro e w3 ⟨a3, c3, rfl, ho3, hb3⟩
            go_wp2_with fail
            go_ret2
            exact ⟨ret_bb H1.out.symm H0.out.symm, bw2.trans (hb3.mono bs2)⟩
          · have hne : (n != m) = true := by simpa using hs
            have H1 : Hid (skB n xs m ys = false) := by simp [Hid, skB, hs]
            clear HY
            go_wp2_with fail
            go_ret2
            exact ⟨ret_bb H1.out.symm H0.out.symm, bw2⟩
        · have H0 : Hid (skOk n xs m ys = false) := by simp [Hid, skOk, h7]
          have H1 : Hid (skB n xs m ys = false) := by simp [Hid, skB, H0.out]
          clear zA zB
          go_wp2_with fail
          go_ret2
          exact ⟨ret_bb H1.out.symm H0.out.symm, bw2⟩
      · have H0 : Hid (skOk n xs m ys = false) := by simp [Hid, skOk, h6]
        have H1 : Hid (skB n xs m ys = false) := by simp [Hid, skB, H0.out]
        clear zA zB
        go_wp2_with fail
        go_ret2
        exact ⟨ret_bb H1.out.symm H0.out.symm, bw2⟩

theorem same_val {n : Int} {xs ys : List Int} (h1 : relB n xs = true) (h2 : relB n ys = true) (h3 : (fpS xs ys ys.length []).isSome = true) : skOk n xs n ys = decide (n ≤ 6) ∧ skB n xs n ys = decide (n ≤ 6) := by
  have e1 : skOk n xs n ys = decide (n ≤ 6) := by rw [skOk, h1, h2]; simp
  refine ⟨e1, ?_⟩
  rw [skB, e1]
  by_cases h6 : n ≤ 6
  · have hok : fpOk n xs n ys = true := by rw [fpOk, h1, h2, decide_eq_true h6]; rfl
    rw [(fp_yes hok).2, h3, decide_eq_true h6]; simp
  · rw [decide_eq_false h6]; simp
set_option maxRecDepth 100000 in
set_option maxHeartbeats 8000000 in
theorem walk (a0 : Option Addr) (n0 cap0 : Nat) (a1 : Option Addr) (n1 cap1 : Nat) (w : World) (hR0 : RdB w a0 n0) (hl0 : n0 ≤ 9223372036854775807) (hR1 : RdB w a1 n1) (hl1 : n1 ≤ 9223372036854775807) :
    Calls Try.prog 3 #[.slice a0 n0 cap0, .slice a1 n1 cap1] w fun e w' => e = .returned (.bool true) ∧ Below w.heap.size w w' := by
  go_enter Try.func3, Try.ntmps3
  go_wp2_with fail
  refine (big_any _ _ _ _ _ _ _ hl0 hl1).mono ?_
  rintro e w' ⟨he, rfl⟩
  rcases he with rfl | ⟨rfl, hb0, hb1⟩
  · go_wp2_with fail
    go_ret
    exact ⟨rfl, (by repeat (first | exact Below.refl _ _ | assumption | refine Below.alloc ?_ (by first | exact Nat.le_refl _ | (simp only [World.size_alloc, World.size_setCell, World.size_drew]; omega) | omega) _ | refine Below.setCell ?_ (by first | exact Nat.le_refl _ | (simp only [World.size_alloc, World.size_setCell, World.size_drew]; omega) | omega) _ | refine Below.drew ?_))⟩
  · go_wp2_with fail
    refine (drFind_any _ _ _ _ hR0 hb0).mono ?_
    rintro e w1 ⟨n, a, cap, xs, m, b, cap2, ys, rfl, ho, hxl, hnb, hq, hyl, hmb, hb⟩
    have hnn : -9223372036854775808 ≤ n ∧ n ≤ 9223372036854775807 := by omega
    have hmm : -9223372036854775808 ≤ m ∧ m ≤ 9223372036854775807 := by omega
    have HEL : Hid (∀ l : List Int, eqL l l = true) := fun l => by simp [eqL]
    have HEQ : Hid (∀ (m : Int) (zs : List Int), eqO m zs m zs = true) := fun m zs => eqO_refl m zs
    obtain ⟨L, hL⟩ : ∃ L, L = fpV n xs m ys := ⟨_, rfl⟩
    obtain ⟨G, hG⟩ : ∃ G, G = fpB n xs m ys := ⟨_, rfl⟩
    have HIF := Lib.hid (fun W (h : Rd W a xs) (h2 : Rd W b ys) => iFind_any n a xs cap m b ys cap2 W hnn h hmm h2)
    have HSF := Lib.hid (fun W (h : Rd W a xs) (h2 : Rd W b ys) => sFind_any n a xs cap m b ys cap2 W hnn h hmm h2)
    rw [← hL, ← hG] at HIF HSF
    have HLE := Lib.hid hL
    have HGE := Lib.hid hG
    have q1 : (G != G) = false := by simp
    have bA : Below w1.heap.size w1 (w1.alloc (.cells #[.int .i64 n, .slice a xs.length cap] 26)) := (by repeat (first | exact Below.refl _ _ | assumption | refine Below.alloc ?_ (by first | exact Nat.le_refl _ | (simp only [World.size_alloc, World.size_setCell, World.size_drew]; omega) | omega) _ | refine Below.setCell ?_ (by first | exact Nat.le_refl _ | (simp only [World.size_alloc, World.size_setCell, World.size_drew]; omega) | omega) _ | refine Below.drew ?_))
    have bZ : Below (w1.alloc (.cells #[.int .i64 n, .slice a xs.length cap] 26)).heap.size (w1.alloc (.cells #[.int .i64 n, .slice a xs.length cap] 26)) ((w1.alloc (.cells #[.int .i64 n, .slice a xs.length cap] 26)).alloc (.cells #[.int .i64 m, .slice b ys.length cap2] 26)) := (by repeat (first | exact Below.refl _ _ | assumption | refine Below.alloc ?_ (by first | exact Nat.le_refl _ | (simp only [World.size_alloc, World.size_setCell, World.size_drew]; omega) | omega) _ | refine Below.setCell ?_ (by first | exact Nat.le_refl _ | (simp only [World.size_alloc, World.size_setCell, World.size_drew]; omega) | omega) _ | refine Below.drew ?_))
    have HX := Lib.hid ((Box2.new w1 (.int .i64 n) (.slice a xs.length cap) 26).below bZ)
    have HZ := Lib.hid (Box2.new (w1.alloc (.cells #[.int .i64 n, .slice a xs.length cap] 26)) (.int .i64 m) (.slice b ys.length cap2) 26)
    rw [World.size_alloc] at HZ
    have HR := Lib.hid ((ho.rd.below bA).below bZ)
    have HS := Lib.hid ((hq.rd.below bA).below bZ)
    have HM := Lib.hid (((hR1.below hb).below bA).below bZ)
    have HB := Lib.hid (hb.trans ((bA.trans (bZ.mono (by simp))).mono hb.size))
    obtain ⟨w2, hw2⟩ : ∃ x : World, x = (w1.alloc (.cells #[.int .i64 n, .slice a xs.length cap] 26)).alloc (.cells #[.int .i64 m, .slice b ys.length cap2] 26) := ⟨_, rfl⟩
    rw [← hw2] at HX HZ HR HS HM HB
    have HW2 := Lib.hid hw2
    clear bA bZ hw2 ho hq hb hR0 hR1 hl0 hl1 hb0 hL hG
    go_wp2_with fail
    rw [← HW2.out]
    clear HW2
    refine (HIF.out _ HR.out HS.out).mono ?_
    rintro e w3 ⟨a3, c3, rfl, ho3, hb3⟩
    try clear zX cX dX
    try clear zZ cZ dZ
    replace HB := Lib.hid (HB.out.trans (hb3.mono HB.out.size))
    replace HX := Lib.hid (HX.out.below hb3)
    replace HZ := Lib.hid (HZ.out.below hb3)
    replace HR := Lib.hid (HR.out.below hb3)
    replace HS := Lib.hid (HS.out.below hb3)
    replace HM := Lib.hid (HM.out.below hb3)
    have ⟨zX, cX, dX⟩ := HX.out
    have ⟨zZ, cZ, dZ⟩ := HZ.out
    clear hb3
    have HC := Lib.hid ho3.rd
    clear ho3
    go_wp2_with fail
    refine (HSF.out _ HR.out HS.out).mono ?_
    rintro e w4 ⟨a4, c4, rfl, ho4, hb4⟩
    try clear zX cX dX
    try clear zZ cZ dZ
    replace HB := Lib.hid (HB.out.trans (hb4.mono HB.out.size))
    replace HX := Lib.hid (HX.out.below hb4)
    replace HZ := Lib.hid (HZ.out.below hb4)
    replace HR := Lib.hid (HR.out.below hb4)
    replace HS := Lib.hid (HS.out.below hb4)
    replace HM := Lib.hid (HM.out.below hb4)
    replace HC := Lib.hid (HC.out.below hb4)
    have ⟨zX, cX, dX⟩ := HX.out
    have ⟨zZ, cZ, dZ⟩ := HZ.out
    clear hb4
    have HD := Lib.hid ho4.rd
    clear ho4 HIF HSF
    go_wp2_with fail
    refine ((pSame_any a3 a4 L L c3 c4 _ HC.out HD.out)).mono ?_
    rw [HEL.out]
    rintro e w5 ⟨rfl, hb5⟩
    try clear zX cX dX
    try clear zZ cZ dZ
    replace HB := Lib.hid (HB.out.trans (hb5.mono HB.out.size))
    replace HX := Lib.hid (HX.out.below hb5)
    replace HZ := Lib.hid (HZ.out.below hb5)
    replace HR := Lib.hid (HR.out.below hb5)
    replace HS := Lib.hid (HS.out.below hb5)
    replace HM := Lib.hid (HM.out.below hb5)
    replace HC := Lib.hid (HC.out.below hb5)
    replace HD := Lib.hid (HD.out.below hb5)
    have ⟨zX, cX, dX⟩ := HX.out
    have ⟨zZ, cZ, dZ⟩ := HZ.out
    clear hb5
    clear HD
    cases hGG : G
    case false =>
      obtain ⟨w6, e6⟩ : ∃ x, x = w5 := ⟨_, rfl⟩
      subst e6
      go_wp2_with fail
      try clear HR
      try clear HS
      try clear HC
      try clear HX
      try clear HZ
      try clear zX cX dX
      try clear zZ cZ dZ
      clear HLE HGE hGG q1
      refine (drRename_any _ _ _ _ HM.out hb1).mono ?_
      rintro e w7 ⟨nq, aq, cq, zs, be, ce, es, rfl, hoq, hzl, hq0, hq1, hoe, hel, hb7⟩
      replace HB := Lib.hid (HB.out.trans (hb7.mono HB.out.size))
      replace HM := Lib.hid (HM.out.below hb7)
      clear hb7
      have hqq : -9223372036854775808 ≤ nq ∧ nq ≤ 9223372036854775807 := by omega
      have HQ := Lib.hid hoq.rd
      have HE := Lib.hid hoe.rd
      clear hoq hoe HM
      obtain ⟨N2, hN⟩ : ∃ N, N = renN nq zs es := ⟨_, rfl⟩
      obtain ⟨R2, hR2⟩ : ∃ L, L = renL nq zs es := ⟨_, rfl⟩
      obtain ⟨T2, hT2⟩ : ∃ G, G = okR nq zs es := ⟨_, rfl⟩
      have HIN := Lib.hid (fun W (h : Rd W aq zs) (h2 : Rd W be es) => iRenameOf_any nq aq zs cq be es ce W hqq h h2)
      have HSN := Lib.hid (fun W (h : Rd W aq zs) (h2 : Rd W be es) => sRenameOf_any nq aq zs cq be es ce W hqq h h2)
      unfold GotO at HIN HSN
      rw [← hN, ← hR2, ← hT2] at HIN HSN
      have HNE := Lib.hid hN
      have HRE := Lib.hid hR2
      have HTE := Lib.hid hT2
      have q2 : (T2 != T2) = false := by simp
      clear hN hR2 hT2
      have ba7 : Below w7.heap.size w7 (w7.alloc (.cells #[.int .i64 nq, .slice aq zs.length cq] 26)) := (Below.refl _ _).alloc (Nat.le_refl _) _
      have HU := Lib.hid (Box2.new w7 (.int .i64 nq) (.slice aq zs.length cq) 26)
      replace HB := Lib.hid (HB.out.trans (ba7.mono HB.out.size))
      replace HQ := Lib.hid (HQ.out.below ba7)
      replace HE := Lib.hid (HE.out.below ba7)
      obtain ⟨v7, hv7⟩ : ∃ x : World, x = w7.alloc (.cells #[.int .i64 nq, .slice aq zs.length cq] 26) := ⟨_, rfl⟩
      have HV7 := Lib.hid hv7
      rw [← hv7] at HU HB HQ HE
      clear ba7 hv7
      have cU := HU.out.2
      go_wp2_with fail
      rw [← HV7.out]
      clear cU
      have ⟨zU, cU, dU⟩ := HU.out
      refine (HIN.out _ HQ.out HE.out).mono ?_
      rintro e w8 ⟨a8, c8, rfl, ho8, hb8⟩
      try clear zU cU dU
      replace HB := Lib.hid (HB.out.trans (hb8.mono HB.out.size))
      replace HU := Lib.hid (HU.out.below hb8)
      replace HQ := Lib.hid (HQ.out.below hb8)
      replace HE := Lib.hid (HE.out.below hb8)
      have ⟨zU, cU, dU⟩ := HU.out
      clear hb8
      have HV := Lib.hid ho8.rd
      clear ho8
      have ba8 : Below w8.heap.size w8 (w8.alloc (.cells #[.int .i64 N2, .slice a8 R2.length c8] 26)) := (Below.refl _ _).alloc (Nat.le_refl _) _
      have HP := Lib.hid (Box2.new w8 (.int .i64 N2) (.slice a8 R2.length c8) 26)
      replace HB := Lib.hid (HB.out.trans (ba8.mono HB.out.size))
      replace HU := Lib.hid (HU.out.below ba8)
      replace HQ := Lib.hid (HQ.out.below ba8)
      replace HE := Lib.hid (HE.out.below ba8)
      replace HV := Lib.hid (HV.out.below ba8)
      obtain ⟨v8, hv8⟩ : ∃ x : World, x = w8.alloc (.cells #[.int .i64 N2, .slice a8 R2.length c8] 26) := ⟨_, rfl⟩
      have HV8 := Lib.hid hv8
      rw [← hv8] at HP HB HU HQ HE HV
      clear ba8 hv8
      have cP := HP.out.2
      go_wp2_with fail
      rw [← HV8.out]
      try clear zU cU dU
      clear cP
      have ⟨zU, cU, dU⟩ := HU.out
      have ⟨zP, cP, dP⟩ := HP.out
      refine (HSN.out _ HQ.out HE.out).mono ?_
      rintro e w9 ⟨a9, c9, rfl, ho9, hb9⟩
      try clear zU cU dU
      try clear zP cP dP
      replace HB := Lib.hid (HB.out.trans (hb9.mono HB.out.size))
      replace HU := Lib.hid (HU.out.below hb9)
      replace HP := Lib.hid (HP.out.below hb9)
      replace HQ := Lib.hid (HQ.out.below hb9)
      replace HE := Lib.hid (HE.out.below hb9)
      replace HV := Lib.hid (HV.out.below hb9)
      have ⟨zU, cU, dU⟩ := HU.out
      have ⟨zP, cP, dP⟩ := HP.out
      clear hb9
      have HD := Lib.hid ho9.rd
      clear ho9 HIN HSN
      have ba9 : Below w9.heap.size w9 (w9.alloc (.cells #[.int .i64 N2, .slice a9 R2.length c9] 26)) := (Below.refl _ _).alloc (Nat.le_refl _) _
      have HY := Lib.hid (Box2.new w9 (.int .i64 N2) (.slice a9 R2.length c9) 26)
      replace HB := Lib.hid (HB.out.trans (ba9.mono HB.out.size))
      replace HU := Lib.hid (HU.out.below ba9)
      replace HP := Lib.hid (HP.out.below ba9)
      replace HQ := Lib.hid (HQ.out.below ba9)
      replace HE := Lib.hid (HE.out.below ba9)
      replace HV := Lib.hid (HV.out.below ba9)
      replace HD := Lib.hid (HD.out.below ba9)
      obtain ⟨v9, hv9⟩ : ∃ x : World, x = w9.alloc (.cells #[.int .i64 N2, .slice a9 R2.length c9] 26) := ⟨_, rfl⟩
      have HV9 := Lib.hid hv9
      rw [← hv9] at HY HB HU HP HQ HE HV HD
      clear ba9 hv9
      have cY := HY.out.2
      go_wp2_with fail
      rw [← HV9.out]
      try clear zU cU dU
      try clear zP cP dP
      clear cY
      have ⟨zU, cU, dU⟩ := HU.out
      have ⟨zP, cP, dP⟩ := HP.out
      have ⟨zY, cY, dY⟩ := HY.out
      refine ((pSameO_any N2 N2 a8 a9 R2 R2 c8 c9 _ HV.out HD.out)).mono ?_
      rw [HEQ.out]
      rintro e w10 ⟨rfl, hb10⟩
      try clear zU cU dU
      try clear zP cP dP
      try clear zY cY dY
      replace HB := Lib.hid (HB.out.trans (hb10.mono HB.out.size))
      replace HU := Lib.hid (HU.out.below hb10)
      replace HP := Lib.hid (HP.out.below hb10)
      replace HY := Lib.hid (HY.out.below hb10)
      replace HQ := Lib.hid (HQ.out.below hb10)
      replace HE := Lib.hid (HE.out.below hb10)
      replace HV := Lib.hid (HV.out.below hb10)
      replace HD := Lib.hid (HD.out.below hb10)
      have ⟨zU, cU, dU⟩ := HU.out
      have ⟨zP, cP, dP⟩ := HP.out
      have ⟨zY, cY, dY⟩ := HY.out
      clear hb10
      clear HD HY
      try clear zY cY dY
      cases hTT : T2
      · go_wp2_with fail
        go_ret
        exact ⟨rfl, HB.out⟩
      · have hok : okR nq zs es = true := by rw [← HTE.out]; exact hTT
        have hre : relB nq zs = true ∧ permB nq es = true := by simp only [okR, Bool.and_eq_true] at hok; exact hok
        have hp := relB_p hre.1
        have hpl := (permB_iff.1 hre.2).1
        have hzn := hp.len
        have hn10 := hp.n1
        obtain ⟨N, rfl⟩ := Int.eq_ofNat_of_zero_le hp.n0
        have e1 : N2 = (N : Int) := by rw [HNE.out, renN, if_pos hok]
        have e2 : R2 = rens zs es := by rw [HRE.out, renL, if_pos hok]
        have hrl : R2.length = es.length := by rw [e2, rens, fmap_len]
        have hrr : relB (N : Int) R2 = true := by rw [e2]; exact ren_rel hre.1 hre.2
        have hpr := relB_p hrr
        have hsv := same_val hre.1 hrr (by rw [e2]; exact ren_same hre.1 hre.2)
        subst e1
        have HES : Hid (∀ k, k < es.length → ∃ i : Nat, i < es.length ∧ nth es k = (i : Int)) := fun k hk => by
          have := okN_elem ((permB_iff.1 hre.2).2 k hk)
          obtain ⟨i, hi⟩ := Int.eq_ofNat_of_zero_le this.1
          exact ⟨i, by omega, hi⟩
        have HHA : Hid (∀ i j, i < es.length → j < es.length → hasB (nth zs i) (j : Int) = hasB (nth R2 (nth es i).toNat) (nth es j)) := fun i j hi hj => by rw [e2]; exact ren_has hre.1 hre.2 hi hj
        have HSX := Lib.hid (fun k (hk : k < zs.length) => (⟨hp.pos k hk, hp.small k hk⟩ : 0 ≤ nth zs k ∧ nth zs k < 1024))
        have HSY := Lib.hid (fun k (hk : k < R2.length) => (⟨hpr.pos k hk, hpr.small k hk⟩ : 0 ≤ nth R2 k ∧ nth R2 k < 1024))
        have HSK : Hid (∀ W, Rd W aq zs → Rd W a8 R2 → Calls Try.prog 19 #[.agg #[.int .i64 (N : Int), .slice aq zs.length cq], .agg #[.int .i64 (N : Int), .slice a8 R2.length c8]] W fun e w' => e = .returned (.tuple #[.bool (decide ((N : Int) ≤ 6)), .bool (decide ((N : Int) ≤ 6))]) ∧ Below W.heap.size W w') := fun W h h2 => by
          have := iSame_any (N : Int) aq zs cq (N : Int) a8 R2 c8 W hqq h hqq h2
          rw [hsv.1, hsv.2] at this
          exact this
        have HL1 : Hid (zs.length = es.length) := by simp only [Hid]; omega
        have HL2 : Hid (R2.length = es.length) := hrl
        clear hok hre hp hpl hzn e2 hrl hrr hpr hsv HNE HRE HTE hTT q2
        go_wp2_with fail
        have HBB := HB
        have HQQ := HQ
        have HEE := HE
        have HVV := HV
        have HUU := HU
        have HPP := HP
        clear cU dU zU cP dP zP
        go_loopw [131] (fun i wr => ∃ k : Nat, k ≤ es.length ∧ i = .int .i64 k ∧ Below w10.heap.size w10 wr) (fun i _ => es.length - (intOf i).toNat)
        case atStart => exact ⟨0, Nat.zero_le _, rfl, Below.refl _ _⟩
        case round =>
          obtain ⟨k, hk, rfl, hb⟩ := hrel
          have HB9 := Lib.hid hb
          obtain ⟨W9, hW9⟩ : ∃ x : World, x = wr := ⟨_, rfl⟩
          subst hW9
          by_cases hlt : k < es.length
          · have k1 : (k : Int) < (es.length : Int) := by omega
            clear hb
            go_wp2_with fail
            go_loopw [136] (fun i wr => ∃ j : Nat, j ≤ es.length ∧ i = .int .i64 j ∧ Below w10.heap.size w10 wr) (fun i _ => es.length - (intOf i).toNat)
            case atStart => exact ⟨0, Nat.zero_le _, rfl, HB9.out⟩
            case round =>
              obtain ⟨j, hj, rfl, hb⟩ := hrel
              have HT := Lib.hid hb
              by_cases hjl : j < es.length
              · have j1 : (j : Int) < (es.length : Int) := by omega
                obtain ⟨I, hI, eI⟩ := HES.out k hlt
                obtain ⟨J, hJ, eJ⟩ := HES.out j hjl
                obtain ⟨b1, o1, rfl, hb1, hc1⟩ := (HEE.out.below hb).cell k hlt
                obtain ⟨b2, o2, e2, hb2, hc2⟩ := (HEE.out.below hb).cell j hjl
                simp only [Option.some.injEq, Addr.mk.injEq, and_true] at e2
                obtain ⟨rfl, rfl⟩ := e2
                rw [eI] at hc1
                rw [eJ] at hc2
                obtain ⟨b3, o3, rfl, hb3, hc3⟩ := (HQQ.out.below hb).cell k (by rw [HL1.out]; exact hlt)
                obtain ⟨b4, o4, rfl, hb4, hc4⟩ := (HVV.out.below hb).cell I (by rw [HL2.out]; exact hI)
                have ⟨zU, cU, dU⟩ := HUU.out.below hb
                have ⟨zP, cP, dP⟩ := HPP.out.below hb
                have hrel2 := HHA.out k j hlt hjl
                rw [eI, eJ, Int.toNat_natCast] at hrel2
                have hv1 := HSX.out k (by rw [HL1.out]; exact hlt)
                have hv2 := HSY.out I (by rw [HL2.out]; exact hI)
                have i1 : (k : Int) < (zs.length : Int) := by rw [HL1.out]; omega
                have i2 : (I : Int) < (R2.length : Int) := by rw [HL2.out]; omega
                have HALL : Hid (∀ (s i : Int) (v : Bool), ((s = nth zs k ∧ i = (j : Int) ∧ v = hasB (nth R2 I) (J : Int)) ∨ (s = nth R2 I ∧ i = (J : Int) ∧ v = hasB (nth R2 I) (J : Int))) → ∀ W, Calls Try.prog 14 #[.int .i64 s, .int .i64 i] W fun e w' => e = .returned (.bool v) ∧ W = w') := by
                  rintro s i v (⟨rfl, rfl, rfl⟩ | ⟨rfl, rfl, rfl⟩) W
                  · have := pIn_any (nth zs k) (j : Int) W (by omega) (by omega) (by omega)
                    rw [hrel2] at this
                    exact this
                  · exact pIn_any (nth R2 I) (J : Int) W (by omega) (by omega) (by omega)
                generalize hasB (nth R2 I) (J : Int) = V at HALL
                generalize nth zs k = s1 at hc3 HALL
                generalize nth R2 I = s2 at hc4 HALL
                clear hb hrel2 hv1 hv2 eI eJ
                go_wp2_with fail
                go_quiet ((go_at_call 14; exact pIn_is (HALL.out _ _ _ (by first | exact .inl ⟨rfl, rfl, rfl⟩ | exact .inr ⟨rfl, rfl, rfl⟩)) _ _))
                go_wp2_with fail
                go_roundw
                case rel => exact ⟨j + 1, by omega, by go_num, HT.out.trans (Joins.below_draws _ _ _)⟩
                case measure => simp [intOf]; omega
              · obtain rfl : j = es.length := by omega
                clear hb
                go_wp2_with fail
                go_roundw
                case rel => exact ⟨k + 1, by omega, by go_num, HT.out⟩
                case measure => simp [intOf]; omega
          · obtain rfl : k = es.length := by omega
            have HBz := Lib.hid (HBB.out.trans (HB9.out.mono HBB.out.size))
            have HQz := Lib.hid (HQQ.out.below HB9.out)
            have HVz := Lib.hid (HVV.out.below HB9.out)
            have HUz := Lib.hid (HUU.out.below HB9.out)
            have HPz := Lib.hid (HPP.out.below HB9.out)
            have ⟨zU, cU, dU⟩ := HUz.out
            have ⟨zP, cP, dP⟩ := HPz.out
            clear hb
            go_wp2_with fail
            refine (HSK.out _ HQz.out HVz.out).mono ?_
            rintro e wn ⟨rfl, hbn⟩
            have HBy := Lib.hid (HBz.out.trans (hbn.mono HBz.out.size))
            have HUy := Lib.hid (HUz.out.below hbn)
            clear zU cU dU zP cP dP hbn
            have ⟨zU, cU, dU⟩ := HUy.out
            by_cases h6 : (N : Int) ≤ 6
            · rw [decide_eq_true h6]
              go_wp2_with fail
              go_ret
              exact ⟨rfl, HBy.out⟩
            · rw [decide_eq_false h6]
              go_wp2_with fail
              go_ret
              exact ⟨ret_bool (by rw [decide_eq_false (by omega)]; rfl), HBy.out⟩
    case true =>
      have hfb : fpB n xs m ys = true := by rw [← HGE.out]; exact hGG
      have hok : fpOk n xs m ys = true := by
        cases h : fpOk n xs m ys
        · rw [(fp_no h).2] at hfb; cases hfb
        · rfl
      have hre : relB n xs = true ∧ relB m ys = true := by simp only [fpOk, Bool.and_eq_true] at hok; exact hok.1
      have hpx := relB_p hre.1
      have hpy := relB_p hre.2
      obtain ⟨zs0, hz0⟩ : ∃ z, fpS xs ys ys.length [] = some z := by
        rw [(fp_yes hok).2] at hfb
        exact Option.isSome_iff_exists.1 hfb
      have hL0 : L = zs0 := by rw [HLE.out, (fp_yes hok).1, hz0]; rfl
      have hpt := fpS_ok (PtOk.nil xs ys) hz0
      have hpl := fpS_len hz0
      rw [← hL0] at hpt hpl
      simp only [List.length_nil, Nat.zero_add] at hpl
      have hml : ((L.length : Int) != m) = false := by have := hpy.len; simp; omega
      have HPE := Lib.hid hpt.el
      have HPN := Lib.hid hpt.ne
      have HPR := Lib.hid hpt.rel
      have HPL := Lib.hid hpl
      have HSX := Lib.hid (fun k (hk : k < xs.length) => (⟨hpx.pos k hk, hpx.small k hk⟩ : 0 ≤ nth xs k ∧ nth xs k < 1024))
      have HSY := Lib.hid (fun k (hk : k < ys.length) => (⟨hpy.pos k hk, hpy.small k hk⟩ : 0 ≤ nth ys k ∧ nth ys k < 1024))
      have hL12 : L.length ≤ 12 := by omega
      clear hfb hok hre hpx hpy hz0 hL0 hpt hpl
      go_wp2_with fail
      have HBB := HB
      have HRR := HR
      have HSS := HS
      have HMM := HM
      have HCC := HC
      have HXX := HX
      have HZZ := HZ
      clear cX dX zX cZ dZ zZ
      go_loopw [57] (fun i wr => ∃ k : Nat, k ≤ L.length ∧ i = .int .i64 k ∧ Below w5.heap.size w5 wr) (fun i _ => L.length - (intOf i).toNat)
      case atStart => exact ⟨0, Nat.zero_le _, rfl, Below.refl _ _⟩
      case round =>
        obtain ⟨k, hk, rfl, hb⟩ := hrel
        have HB9 := Lib.hid hb
        obtain ⟨W9, hW9⟩ : ∃ x : World, x = wr := ⟨_, rfl⟩
        subst hW9
        by_cases hlt : k < L.length
        · have k1 : (k : Int) < (L.length : Int) := by omega
          obtain ⟨I, hI, eI⟩ := HPE.out k hlt
          obtain ⟨b1, o1, rfl, hb1, hc1⟩ := (HCC.out.below hb).cell k hlt
          rw [eI] at hc1
          have HEI := Lib.hid eI
          clear hb eI
          go_wp2_with fail
          go_loopw [64] (fun i wr => ∃ j : Nat, j ≤ L.length ∧ i = .int .i64 j ∧ Below w5.heap.size w5 wr) (fun i _ => L.length - (intOf i).toNat)
          case atStart => exact ⟨0, Nat.zero_le _, rfl, HB9.out⟩
          case round =>
            obtain ⟨j, hj, rfl, hb⟩ := hrel
            have HT := Lib.hid hb
            by_cases hjl : j < L.length
            · have j1 : (j : Int) < (L.length : Int) := by omega
              obtain ⟨J, hJ, eJ⟩ := HPE.out j hjl
              obtain ⟨b2, o2, e2, hb2, hc2⟩ := (HCC.out.below hb).cell j hjl
              simp only [Option.some.injEq, Addr.mk.injEq, and_true] at e2
              obtain ⟨rfl, rfl⟩ := e2
              rw [eJ] at hc2
              obtain ⟨b3, o3, rfl, hb3, hc3⟩ := (HRR.out.below hb).cell I hI
              obtain ⟨b4, o4, rfl, hb4, hc4⟩ := (HSS.out.below hb).cell k (by have := HPL.out; omega)
              have ⟨zX, cX, dX⟩ := HXX.out.below hb
              have ⟨zZ, cZ, dZ⟩ := HZZ.out.below hb
              have hrel2 := HPR.out k j hlt hjl
              rw [HEI.out, eJ, Int.toNat_natCast] at hrel2
              have hv1 := HSX.out I hI
              have hv2 := HSY.out k (by have := HPL.out; omega)
              have i1 : (I : Int) < (xs.length : Int) := by omega
              have i2 : (k : Int) < (ys.length : Int) := by have := HPL.out; omega
              have hij : k ≠ j → ((I : Int) == (J : Int)) = false := fun hne => by
                rw [beq_eq_false_iff_ne]
                intro e
                exact hne (HPN.out k j hlt hjl (by rw [HEI.out, eJ, e]))
              have HALL : Hid (∀ (s i : Int) (v : Bool), ((s = nth xs I ∧ i = (J : Int) ∧ v = hasB (nth ys k) (j : Int)) ∨ (s = nth ys k ∧ i = (j : Int) ∧ v = hasB (nth ys k) (j : Int))) → ∀ W, Calls Try.prog 14 #[.int .i64 s, .int .i64 i] W fun e w' => e = .returned (.bool v) ∧ W = w') := by
                rintro s i v (⟨rfl, rfl, rfl⟩ | ⟨rfl, rfl, rfl⟩) W
                · have := pIn_any (nth xs I) (J : Int) W (by omega) (by omega) (by omega)
                  rw [hrel2] at this
                  exact this
                · exact pIn_any (nth ys k) (j : Int) W (by omega) (by omega) (by omega)
              generalize hasB (nth ys k) (j : Int) = V at HALL
              generalize nth xs I = s1 at hc3 HALL
              generalize nth ys k = s2 at hc4 HALL
              clear hb hrel2 hv1 hv2 eJ
              by_cases hkj : k = j
              · subst hkj
                clear hij
                go_wp2_with fail
                go_quiet ((go_at_call 14; exact pIn_is (HALL.out _ _ _ (by first | exact .inl ⟨rfl, rfl, rfl⟩ | exact .inr ⟨rfl, rfl, rfl⟩)) _ _))
                go_wp2_with fail
                go_roundw
                case rel => exact ⟨k + 1, by omega, by go_num, HT.out.trans (Joins.below_draws _ _ _)⟩
                case measure => simp [intOf]; omega
              · have hij2 := hij hkj
                have hkj2 : ((k : Int) != (j : Int)) = true := by simp; omega
                clear hij
                go_wp2_with fail
                go_quiet ((go_at_call 14; exact pIn_is (HALL.out _ _ _ (by first | exact .inl ⟨rfl, rfl, rfl⟩ | exact .inr ⟨rfl, rfl, rfl⟩)) _ _))
                go_wp2_with fail
                go_roundw
                case rel => exact ⟨j + 1, by omega, by go_num, HT.out.trans (Joins.below_draws _ _ _)⟩
                case measure => simp [intOf]; omega
            · obtain rfl : j = L.length := by omega
              clear hb
              go_wp2_with fail
              go_roundw
              case rel => exact ⟨k + 1, by omega, by go_num, HT.out⟩
              case measure => simp [intOf]; omega
        · obtain rfl : k = L.length := by omega
          replace HB := Lib.hid (HBB.out.trans (HB9.out.mono HBB.out.size))
          replace HM := Lib.hid (HMM.out.below HB9.out)
          have ⟨zZ, cZ, dZ⟩ := HZZ.out.below HB9.out
          clear hb HR HS HC HX HZ HBB HRR HSS HMM HCC HXX HZZ HPE HPN HPR HPL HSX HSY HB9
          obtain ⟨w6, e6⟩ : ∃ x, x = W9 := ⟨_, rfl⟩
          subst e6
          go_wp2_with fail
          try clear HR
          try clear HS
          try clear HC
          try clear HX
          try clear HZ
          try clear zX cX dX
          try clear zZ cZ dZ
          clear HLE HGE hGG q1
          refine (drRename_any _ _ _ _ HM.out hb1).mono ?_
          rintro e w7 ⟨nq, aq, cq, zs, be, ce, es, rfl, hoq, hzl, hq0, hq1, hoe, hel, hb7⟩
          replace HB := Lib.hid (HB.out.trans (hb7.mono HB.out.size))
          replace HM := Lib.hid (HM.out.below hb7)
          clear hb7
          have hqq : -9223372036854775808 ≤ nq ∧ nq ≤ 9223372036854775807 := by omega
          have HQ := Lib.hid hoq.rd
          have HE := Lib.hid hoe.rd
          clear hoq hoe HM
          obtain ⟨N2, hN⟩ : ∃ N, N = renN nq zs es := ⟨_, rfl⟩
          obtain ⟨R2, hR2⟩ : ∃ L, L = renL nq zs es := ⟨_, rfl⟩
          obtain ⟨T2, hT2⟩ : ∃ G, G = okR nq zs es := ⟨_, rfl⟩
          have HIN := Lib.hid (fun W (h : Rd W aq zs) (h2 : Rd W be es) => iRenameOf_any nq aq zs cq be es ce W hqq h h2)
          have HSN := Lib.hid (fun W (h : Rd W aq zs) (h2 : Rd W be es) => sRenameOf_any nq aq zs cq be es ce W hqq h h2)
          unfold GotO at HIN HSN
          rw [← hN, ← hR2, ← hT2] at HIN HSN
          have HNE := Lib.hid hN
          have HRE := Lib.hid hR2
          have HTE := Lib.hid hT2
          have q2 : (T2 != T2) = false := by simp
          clear hN hR2 hT2
          have ba7 : Below w7.heap.size w7 (w7.alloc (.cells #[.int .i64 nq, .slice aq zs.length cq] 26)) := (Below.refl _ _).alloc (Nat.le_refl _) _
          have HU := Lib.hid (Box2.new w7 (.int .i64 nq) (.slice aq zs.length cq) 26)
          replace HB := Lib.hid (HB.out.trans (ba7.mono HB.out.size))
          replace HQ := Lib.hid (HQ.out.below ba7)
          replace HE := Lib.hid (HE.out.below ba7)
          obtain ⟨v7, hv7⟩ : ∃ x : World, x = w7.alloc (.cells #[.int .i64 nq, .slice aq zs.length cq] 26) := ⟨_, rfl⟩
          have HV7 := Lib.hid hv7
          rw [← hv7] at HU HB HQ HE
          clear ba7 hv7
          have cU := HU.out.2
          go_wp2_with fail
          rw [← HV7.out]
          clear cU
          have ⟨zU, cU, dU⟩ := HU.out
          refine (HIN.out _ HQ.out HE.out).mono ?_
          rintro e w8 ⟨a8, c8, rfl, ho8, hb8⟩
          try clear zU cU dU
          replace HB := Lib.hid (HB.out.trans (hb8.mono HB.out.size))
          replace HU := Lib.hid (HU.out.below hb8)
          replace HQ := Lib.hid (HQ.out.below hb8)
          replace HE := Lib.hid (HE.out.below hb8)
          have ⟨zU, cU, dU⟩ := HU.out
          clear hb8
          have HV := Lib.hid ho8.rd
          clear ho8
          have ba8 : Below w8.heap.size w8 (w8.alloc (.cells #[.int .i64 N2, .slice a8 R2.length c8] 26)) := (Below.refl _ _).alloc (Nat.le_refl _) _
          have HP := Lib.hid (Box2.new w8 (.int .i64 N2) (.slice a8 R2.length c8) 26)
          replace HB := Lib.hid (HB.out.trans (ba8.mono HB.out.size))
          replace HU := Lib.hid (HU.out.below ba8)
          replace HQ := Lib.hid (HQ.out.below ba8)
          replace HE := Lib.hid (HE.out.below ba8)
          replace HV := Lib.hid (HV.out.below ba8)
          obtain ⟨v8, hv8⟩ : ∃ x : World, x = w8.alloc (.cells #[.int .i64 N2, .slice a8 R2.length c8] 26) := ⟨_, rfl⟩
          have HV8 := Lib.hid hv8
          rw [← hv8] at HP HB HU HQ HE HV
          clear ba8 hv8
          have cP := HP.out.2
          go_wp2_with fail
          rw [← HV8.out]
          try clear zU cU dU
          clear cP
          have ⟨zU, cU, dU⟩ := HU.out
          have ⟨zP, cP, dP⟩ := HP.out
          refine (HSN.out _ HQ.out HE.out).mono ?_
          rintro e w9 ⟨a9, c9, rfl, ho9, hb9⟩
          try clear zU cU dU
          try clear zP cP dP
          replace HB := Lib.hid (HB.out.trans (hb9.mono HB.out.size))
          replace HU := Lib.hid (HU.out.below hb9)
          replace HP := Lib.hid (HP.out.below hb9)
          replace HQ := Lib.hid (HQ.out.below hb9)
          replace HE := Lib.hid (HE.out.below hb9)
          replace HV := Lib.hid (HV.out.below hb9)
          have ⟨zU, cU, dU⟩ := HU.out
          have ⟨zP, cP, dP⟩ := HP.out
          clear hb9
          have HD := Lib.hid ho9.rd
          clear ho9 HIN HSN
          have ba9 : Below w9.heap.size w9 (w9.alloc (.cells #[.int .i64 N2, .slice a9 R2.length c9] 26)) := (Below.refl _ _).alloc (Nat.le_refl _) _
          have HY := Lib.hid (Box2.new w9 (.int .i64 N2) (.slice a9 R2.length c9) 26)
          replace HB := Lib.hid (HB.out.trans (ba9.mono HB.out.size))
          replace HU := Lib.hid (HU.out.below ba9)
          replace HP := Lib.hid (HP.out.below ba9)
          replace HQ := Lib.hid (HQ.out.below ba9)
          replace HE := Lib.hid (HE.out.below ba9)
          replace HV := Lib.hid (HV.out.below ba9)
          replace HD := Lib.hid (HD.out.below ba9)
          obtain ⟨v9, hv9⟩ : ∃ x : World, x = w9.alloc (.cells #[.int .i64 N2, .slice a9 R2.length c9] 26) := ⟨_, rfl⟩
          have HV9 := Lib.hid hv9
          rw [← hv9] at HY HB HU HP HQ HE HV HD
          clear ba9 hv9
          have cY := HY.out.2
          go_wp2_with fail
          rw [← HV9.out]
          try clear zU cU dU
          try clear zP cP dP
          clear cY
          have ⟨zU, cU, dU⟩ := HU.out
          have ⟨zP, cP, dP⟩ := HP.out
          have ⟨zY, cY, dY⟩ := HY.out
          refine ((pSameO_any N2 N2 a8 a9 R2 R2 c8 c9 _ HV.out HD.out)).mono ?_
          rw [HEQ.out]
          rintro e w10 ⟨rfl, hb10⟩
          try clear zU cU dU
          try clear zP cP dP
          try clear zY cY dY
          replace HB := Lib.hid (HB.out.trans (hb10.mono HB.out.size))
          replace HU := Lib.hid (HU.out.below hb10)
          replace HP := Lib.hid (HP.out.below hb10)
          replace HY := Lib.hid (HY.out.below hb10)
          replace HQ := Lib.hid (HQ.out.below hb10)
          replace HE := Lib.hid (HE.out.below hb10)
          replace HV := Lib.hid (HV.out.below hb10)
          replace HD := Lib.hid (HD.out.below hb10)
          have ⟨zU, cU, dU⟩ := HU.out
          have ⟨zP, cP, dP⟩ := HP.out
          have ⟨zY, cY, dY⟩ := HY.out
          clear hb10
          clear HD HY
          try clear zY cY dY
          cases hTT : T2
          · go_wp2_with fail
            go_ret
            exact ⟨rfl, HB.out⟩
          · have hok : okR nq zs es = true := by rw [← HTE.out]; exact hTT
            have hre : relB nq zs = true ∧ permB nq es = true := by simp only [okR, Bool.and_eq_true] at hok; exact hok
            have hp := relB_p hre.1
            have hpl := (permB_iff.1 hre.2).1
            have hzn := hp.len
            have hn10 := hp.n1
            obtain ⟨N, rfl⟩ := Int.eq_ofNat_of_zero_le hp.n0
            have e1 : N2 = (N : Int) := by rw [HNE.out, renN, if_pos hok]
            have e2 : R2 = rens zs es := by rw [HRE.out, renL, if_pos hok]
            have hrl : R2.length = es.length := by rw [e2, rens, fmap_len]
            have hrr : relB (N : Int) R2 = true := by rw [e2]; exact ren_rel hre.1 hre.2
            have hpr := relB_p hrr
            have hsv := same_val hre.1 hrr (by rw [e2]; exact ren_same hre.1 hre.2)
            subst e1
            have HES : Hid (∀ k, k < es.length → ∃ i : Nat, i < es.length ∧ nth es k = (i : Int)) := fun k hk => by
              have := okN_elem ((permB_iff.1 hre.2).2 k hk)
              obtain ⟨i, hi⟩ := Int.eq_ofNat_of_zero_le this.1
              exact ⟨i, by omega, hi⟩
            have HHA : Hid (∀ i j, i < es.length → j < es.length → hasB (nth zs i) (j : Int) = hasB (nth R2 (nth es i).toNat) (nth es j)) := fun i j hi hj => by rw [e2]; exact ren_has hre.1 hre.2 hi hj
            have HSX := Lib.hid (fun k (hk : k < zs.length) => (⟨hp.pos k hk, hp.small k hk⟩ : 0 ≤ nth zs k ∧ nth zs k < 1024))
            have HSY := Lib.hid (fun k (hk : k < R2.length) => (⟨hpr.pos k hk, hpr.small k hk⟩ : 0 ≤ nth R2 k ∧ nth R2 k < 1024))
            have HSK : Hid (∀ W, Rd W aq zs → Rd W a8 R2 → Calls Try.prog 19 #[.agg #[.int .i64 (N : Int), .slice aq zs.length cq], .agg #[.int .i64 (N : Int), .slice a8 R2.length c8]] W fun e w' => e = .returned (.tuple #[.bool (decide ((N : Int) ≤ 6)), .bool (decide ((N : Int) ≤ 6))]) ∧ Below W.heap.size W w') := fun W h h2 => by
              have := iSame_any (N : Int) aq zs cq (N : Int) a8 R2 c8 W hqq h hqq h2
              rw [hsv.1, hsv.2] at this
              exact this
            have HL1 : Hid (zs.length = es.length) := by simp only [Hid]; omega
            have HL2 : Hid (R2.length = es.length) := hrl
            clear hok hre hp hpl hzn e2 hrl hrr hpr hsv HNE HRE HTE hTT q2
            go_wp2_with fail
            have HBB := HB
            have HQQ := HQ
            have HEE := HE
            have HVV := HV
            have HUU := HU
            have HPP := HP
            clear cU dU zU cP dP zP
            go_loopw [131] (fun i wr => ∃ k : Nat, k ≤ es.length ∧ i = .int .i64 k ∧ Below w10.heap.size w10 wr) (fun i _ => es.length - (intOf i).toNat)
            case atStart => exact ⟨0, Nat.zero_le _, rfl, Below.refl _ _⟩
            case round =>
              obtain ⟨k, hk, rfl, hb⟩ := hrel
              have HB9 := Lib.hid hb
              obtain ⟨W9, hW9⟩ : ∃ x : World, x = wr := ⟨_, rfl⟩
              subst hW9
              by_cases hlt : k < es.length
              · have k1 : (k : Int) < (es.length : Int) := by omega
                clear hb
                go_wp2_with fail
                go_loopw [136] (fun i wr => ∃ j : Nat, j ≤ es.length ∧ i = .int .i64 j ∧ Below w10.heap.size w10 wr) (fun i _ => es.length - (intOf i).toNat)
                case atStart => exact ⟨0, Nat.zero_le _, rfl, HB9.out⟩
                case round =>
                  obtain ⟨j, hj, rfl, hb⟩ := hrel
                  have HT := Lib.hid hb
                  by_cases hjl : j < es.length
                  · have j1 : (j : Int) < (es.length : Int) := by omega
                    obtain ⟨I, hI, eI⟩ := HES.out k hlt
                    obtain ⟨J, hJ, eJ⟩ := HES.out j hjl
                    obtain ⟨b1, o1, rfl, hb1, hc1⟩ := (HEE.out.below hb).cell k hlt
                    obtain ⟨b2, o2, e2, hb2, hc2⟩ := (HEE.out.below hb).cell j hjl
                    simp only [Option.some.injEq, Addr.mk.injEq, and_true] at e2
                    obtain ⟨rfl, rfl⟩ := e2
                    rw [eI] at hc1
                    rw [eJ] at hc2
                    obtain ⟨b3, o3, rfl, hb3, hc3⟩ := (HQQ.out.below hb).cell k (by rw [HL1.out]; exact hlt)
                    obtain ⟨b4, o4, rfl, hb4, hc4⟩ := (HVV.out.below hb).cell I (by rw [HL2.out]; exact hI)
                    have ⟨zU, cU, dU⟩ := HUU.out.below hb
                    have ⟨zP, cP, dP⟩ := HPP.out.below hb
                    have hrel2 := HHA.out k j hlt hjl
                    rw [eI, eJ, Int.toNat_natCast] at hrel2
                    have hv1 := HSX.out k (by rw [HL1.out]; exact hlt)
                    have hv2 := HSY.out I (by rw [HL2.out]; exact hI)
                    have i1 : (k : Int) < (zs.length : Int) := by rw [HL1.out]; omega
                    have i2 : (I : Int) < (R2.length : Int) := by rw [HL2.out]; omega
                    have HALL : Hid (∀ (s i : Int) (v : Bool), ((s = nth zs k ∧ i = (j : Int) ∧ v = hasB (nth R2 I) (J : Int)) ∨ (s = nth R2 I ∧ i = (J : Int) ∧ v = hasB (nth R2 I) (J : Int))) → ∀ W, Calls Try.prog 14 #[.int .i64 s, .int .i64 i] W fun e w' => e = .returned (.bool v) ∧ W = w') := by
                      rintro s i v (⟨rfl, rfl, rfl⟩ | ⟨rfl, rfl, rfl⟩) W
                      · have := pIn_any (nth zs k) (j : Int) W (by omega) (by omega) (by omega)
                        rw [hrel2] at this
                        exact this
                      · exact pIn_any (nth R2 I) (J : Int) W (by omega) (by omega) (by omega)
                    generalize hasB (nth R2 I) (J : Int) = V at HALL
                    generalize nth zs k = s1 at hc3 HALL
                    generalize nth R2 I = s2 at hc4 HALL
                    clear hb hrel2 hv1 hv2 eI eJ
                    go_wp2_with fail
                    go_quiet ((go_at_call 14; exact pIn_is (HALL.out _ _ _ (by first | exact .inl ⟨rfl, rfl, rfl⟩ | exact .inr ⟨rfl, rfl, rfl⟩)) _ _))
                    go_wp2_with fail
                    go_roundw
                    case rel => exact ⟨j + 1, by omega, by go_num, HT.out.trans (Joins.below_draws _ _ _)⟩
                    case measure => simp [intOf]; omega
                  · obtain rfl : j = es.length := by omega
                    clear hb
                    go_wp2_with fail
                    go_roundw
                    case rel => exact ⟨k + 1, by omega, by go_num, HT.out⟩
                    case measure => simp [intOf]; omega
              · obtain rfl : k = es.length := by omega
                have HBz := Lib.hid (HBB.out.trans (HB9.out.mono HBB.out.size))
                have HQz := Lib.hid (HQQ.out.below HB9.out)
                have HVz := Lib.hid (HVV.out.below HB9.out)
                have HUz := Lib.hid (HUU.out.below HB9.out)
                have HPz := Lib.hid (HPP.out.below HB9.out)
                have ⟨zU, cU, dU⟩ := HUz.out
                have ⟨zP, cP, dP⟩ := HPz.out
                clear hb
                go_wp2_with fail
                refine (HSK.out _ HQz.out HVz.out).mono ?_
                rintro e wn ⟨rfl, hbn⟩
                have HBy := Lib.hid (HBz.out.trans (hbn.mono HBz.out.size))
                have HUy := Lib.hid (HUz.out.below hbn)
                clear zU cU dU zP cP dP hbn
                have ⟨zU, cU, dU⟩ := HUy.out
                by_cases h6 : (N : Int) ≤ 6
                · rw [decide_eq_true h6]
                  go_wp2_with fail
                  go_ret
                  exact ⟨rfl, HBy.out⟩
                · rw [decide_eq_false h6]
                  go_wp2_with fail
                  go_ret
                  exact ⟨ret_bool (by rw [decide_eq_false (by omega)]; rfl), HBy.out⟩

theorem rd_of_trod {H : Type} {enc : TypeId × Value → H} {W : World} {fuel : Nat} {c : Value} {y : DataW H × List MemPlace}
    (h : DataW.trod enc Try.prog W 0 (fun _ => true) true fuel 24 [c] = some y) : ∃ (a : Option Addr) (xs : List Int) (cap : Nat), c = .slice a xs.length cap ∧ Rd W a xs ∧ ∀ k, k < xs.length → (Lit.int .i64 (nth xs k)).wf = true := by
  rcases Go.ChangeShapes.open_ints Try.underlying24 Try.underlying3 (by kernel_rfl) h with ⟨hcs, _⟩ | ⟨x, len, cap, zs, hcs, _, hl, hm, hz, _, hcell, hwf⟩
  · simp only [List.cons.injEq, and_true] at hcs
    exact ⟨none, [], 0, hcs, ⟨by simp, fun k hk => by simp at hk⟩, fun k hk => by simp at hk⟩
  · simp only [List.cons.injEq, and_true] at hcs
    simp only [if_true] at hz
    have hlen : (zs.take len).length = len := by rw [List.length_take]; omega
    have hn : ∀ k, k < len → nth (zs.take len) k = zs.getD k 0 := by
      intro k hk
      simp only [nth, List.getD_eq_getElem?_getD, List.getElem?_take, hk, if_true]
    refine ⟨some x, zs.take len, cap, by rw [hlen]; exact hcs, ⟨by rw [hlen]; unfold maxLen at hm; omega, fun k hk => ?_⟩, fun k hk => ?_⟩
    · rw [hlen] at hk
      obtain ⟨b, off, sp⟩ := x
      have h0 := hcell 0 (by omega)
      have hsp : sp = none := by simpa [Addr.add] using World.cell?_spot h0
      subst hsp
      have hk' := hcell k (by omega)
      rw [Addr.add_lit] at hk'
      exact ⟨b, off, rfl, World.block_lt_of_cell? _ _ h0, by rw [hk', hn k hk]⟩
    · rw [hlen] at hk
      rw [hn k hk]
      have hk2 : k < zs.length := by omega
      exact hwf _ (by rw [List.getD_eq_getElem?_getD, List.getElem?_eq_getElem hk2]; exact List.getElem_mem hk2)

theorem own : ownKnob Try.prog.godebug = none := by kernel_rfl
theorem laidOut : laidOutB Try.prog = true := by kernel_rfl
theorem wf_bd {n : Int} (h : (Lit.int .i64 n).wf = true) : -9223372036854775808 ≤ n ∧ n ≤ 9223372036854775807 := by
  simp [Lit.wf, IntKind.min, IntKind.max, IntKind.bits, IntKind.signed] at h
  omega

theorem wf_byte {n : Int} (h : (Lit.int .u8 n).wf = true) : 0 ≤ n ∧ n ≤ 255 := by
  simp [Lit.wf, IntKind.min, IntKind.max, IntKind.bits, IntKind.signed] at h
  omega
/-- a slice of bytes that was handed over -/
theorem rdB_of_trod {H : Type} {enc : TypeId × Value → H} {W : World} {fuel : Nat} {c : Value} {y : DataW H × List MemPlace}
    (h : DataW.trod enc Try.prog W 0 (fun _ => true) true fuel 22 [c] = some y) : ∃ (a : Option Addr) (n cap : Nat), c = .slice a n cap ∧ RdB W a n ∧ n ≤ 9223372036854775807 := by
  rcases Go.ChangeShapes.open_ints Try.underlying22 Try.underlying5 (by kernel_rfl) h with ⟨hcs, _⟩ | ⟨x, len, cap, zs, hcs, _, hl, hm, hz, _, hcell, hwf⟩
  · simp only [List.cons.injEq, and_true] at hcs
    exact ⟨none, 0, 0, hcs, ⟨fun k hk => by omega⟩, by omega⟩
  · simp only [List.cons.injEq, and_true] at hcs
    simp only [if_true] at hz
    refine ⟨some x, len, cap, hcs, ⟨fun k hk => ?_⟩, by unfold maxLen at hm; omega⟩
    obtain ⟨b, off, sp⟩ := x
    have h0 := hcell 0 (by omega)
    have hsp : sp = none := by simpa [Addr.add] using World.cell?_spot h0
    subst hsp
    have hk' := hcell k (by omega)
    rw [Addr.add_lit] at hk'
    have hk2 : k < zs.length := by omega
    have hw := hwf _ (show zs.getD k 0 ∈ zs by rw [List.getD_eq_getElem?_getD, List.getElem?_eq_getElem hk2]; exact List.getElem_mem hk2)
    refine ⟨b, off, rfl, World.block_lt_of_cell? _ _ h0, zs.getD k 0, hk', ?_⟩
    exact wf_byte hw

open Go.ChangeShapes Go.WideShapes Go.ChangeAt Go.RowKit in
set_option maxRecDepth 100000 in
theorem lifted (os : Os) (started : os.Started) (H : Type) (enc : TypeId × Value → H) :
    ReturnsInHanded {} Try.checked os 3 .any (Rows.fnPatternsSpec.pre6 enc Try.prog Try.f3 Rows.fnPatternsRow.domain false) (Rows.fnPatternsSpec.post enc Try.prog Try.f3 false true false false) := by
  refine returnsInHanded_of_change (C := Try.checked) own started (by kernel_rfl) Try.func3
    (ChangeSpec.witness6 (enc := enc) (C := Try.checked) false ⟨#[], #[.slice none 0 0, .slice none 0 0], []⟩ 8 (by kernel_rfl) (by kernel_rfl) (by kernel_rfl) (by kernel_rfl)) ?_
  intro W base args ds gs before hval0 hW hcnd _
  have hval : ∀ (j : Nat) t v, Try.f3.params[j]? = some t → args[j]? = some v → Value.okWide Try.prog W .any base t v := hval0
  have hW' := hW
  obtain ⟨p, q, hA0, hV, rfl, hfz, hnd⟩ := hW
  have hA : DataW.TrodAll enc Try.prog W 0 (fun _ => true) true Try.f3.params.toList args.toList ds p := hA0
  rw [Try.params3] at hA hval
  obtain ⟨v0, vs0, d0, ds0, p0, q0, hargs, rfl, rfl, h0, r0⟩ := trodAll_cons hA
  obtain ⟨v1, vs1, d1, ds1, p1, q1, rfl, rfl, rfl, h1, r1⟩ := trodAll_cons r0
  obtain ⟨rfl, rfl, rfl⟩ := trodAll_nil r1
  obtain rfl : args = #[v0, v1] := by cases args; simp_all
  obtain ⟨rfl, rfl⟩ := trodVars_none hV
  have lt0 : ∀ x ∈ p0, x.block < W.heap.size := by obtain ⟨m, hm⟩ := h0; exact DataW.trod_lt m _ _ _ hm
  have lt1 : ∀ x ∈ p1, x.block < W.heap.size := by obtain ⟨m, hm⟩ := h1; exact DataW.trod_lt m _ _ _ hm
  obtain ⟨a0, len0, cap0, rfl⟩ := okWide_slice Try.underlying22 (hval 0 22 v0 rfl rfl)
  obtain ⟨a0, n0, cap0, e0, rd0, ln0⟩ := (by obtain ⟨fu, hf⟩ := h0; simp only [Value.cells] at hf; exact rdB_of_trod hf : ∃ (a : Option Addr) (n cap : Nat), Value.slice a0 len0 cap0 = .slice a n cap ∧ RdB W a n ∧ n ≤ 9223372036854775807)
  simp only [Value.slice.injEq] at e0
  obtain ⟨rfl, rfl, rfl⟩ := e0
  obtain ⟨a1, len1, cap1, rfl⟩ := okWide_slice Try.underlying22 (hval 1 22 v1 rfl rfl)
  obtain ⟨a1, n1, cap1, e1, rd1, ln1⟩ := (by obtain ⟨fu, hf⟩ := h1; simp only [Value.cells] at hf; exact rdB_of_trod hf : ∃ (a : Option Addr) (n cap : Nat), Value.slice a1 len1 cap1 = .slice a n cap ∧ RdB W a n ∧ n ≤ 9223372036854775807)
  simp only [Value.slice.injEq] at e1
  obtain ⟨rfl, rfl, rfl⟩ := e1
  clear hA0 hval0
  refine (walk a0 len0 cap0 a1 len1 cap1 W rd0 ln0 rd1 ln1).mono fun e W' ⟨he, bel⟩ => ?_
  subst he
  exact ⟨_, rfl, _, _, _, [], _, [], hW', trodAll_mk1 (shut_bool Try.underlying4 _), (trodAll_cons_mk (Below.trod laidOut (by kernel_rfl) (of_decide_eq_true (by kernel_rfl)) h0 bel lt0) (trodAll_cons_mk (Below.trod laidOut (by kernel_rfl) (of_decide_eq_true (by kernel_rfl)) h1 bel lt1) trodAll_mk0)), rfl, bel.frame _, fun h => by cases h⟩
theorem proved : Rows.FnPatternsSaid :=
  OpenClaim.holds_of_wide 3 Try.f3 rfl rfl rfl rfl rfl rfl rfl ⟨rfl, rfl, rfl, rfl, rfl⟩ rfl rfl rfl rfl rfl (by kernel_rfl) Try.func3 (by kernel_rfl)
    (of_decide_eq_true (by kernel_rfl)) (by unfold Func.isWrapper; first | (rw [if_pos (by decide +kernel)]; kernel_rfl) | (rw [if_neg (by decide +kernel)]; exact ⟨rfl, rfl⟩))
    (fun os started H enc _ => lifted os started H enc)

end Go.Proofs.Ytkpfjemlldiogaa.patterns
