/- A part of the proof of YtkpfjemlldiogaaMatchingsAreMatrices: contracts of functions. -/
import Derived.Test.YtkpfjemlldiogaaRows
import Derived.WalkKit
import Derived.WalkSpells
import Derived.WalkLawsBesides
import Derived.Deep.QuietTactic
import Derived.BigQuiet
import Derived.ProofKit
import Derived.OpenShut
import Derived.ShutString
import Derived.ChangeOld
import Derived.Below
import Derived.Lib.SmallJoins
import Derived.Lib.Hide
import Derived.Maps.AppendAt
import Derived.Deep.AppendLies
import Derived.Deep.RegionLaw
import Derived.Deep.RegionHeld3
import Derived.Shelf.Slices.Reverse
import Derived.Shelf.Slices.Equal
import Derived.Shelf.Slices.Clone
import Derived.Shelf.Slices.Delete
import Derived.Shelf.Slices.Cells
import Derived.Shelf.Slices.Empties
import Derived.Shelf.Slices.Empties2
import Derived.Shelf.SlicesE.Clone
import Derived.Sort.OwnSortedInts
import Derived.Test.YtkpfjemlldiogaaMatchingsAreMatricesP1
namespace Go.Proofs.Ytkpfjemlldiogaa.matchingsAreMatrices
open Go Go.RowKit
set_option linter.unusedVariables false
set_option linter.unusedSimpArgs false
set_option maxHeartbeats 400000
open Go.Shelf
/-- a list of small numbers that a law draws -/
def DrawnI (w : World) (e : Ending) (w' : World) : Prop :=
  ∃ (a : Option Addr) (cap : Nat) (xs : List Int), e = .returned (.slice a xs.length cap) ∧ OwnI w' w.heap.size (.slice a xs.length cap) xs ∧ xs.length ≤ 16 ∧ (∀ k, k < xs.length → -1 ≤ nth xs k ∧ nth xs k ≤ 1024) ∧ Below w.heap.size w w'
def AscI (w : World) (p L : Nat) (e : Ending) (w' : World) : Prop :=
  ∃ (a : Option Addr) (cap : Nat) (xs : List Int), e = .returned (.slice a xs.length cap) ∧ OwnI w' w.heap.size (.slice a xs.length cap) xs ∧ xs.length ≤ 14 ∧ (∀ k, k < xs.length → -1 ≤ nth xs k ∧ nth xs k ≤ 1024) ∧ Cur w' p (L + 100) ∧ Drawn w w' p
theorem small_snoc {xs : List Int} {x : Int} (h : ∀ k, k < xs.length → -1 ≤ nth xs k ∧ nth xs k ≤ 1024) (h0 : -1 ≤ x) (h1 : x ≤ 1024) : ∀ k, k < (xs ++ [x]).length → -1 ≤ nth (xs ++ [x]) k ∧ nth (xs ++ [x]) k ≤ 1024 := fun j hj => by
  have hl : (xs ++ [x]).length = xs.length + 1 := by simp
  by_cases e : j < xs.length
  · rw [nth_snoc_lt e]; exact h j e
  · obtain rfl : j = xs.length := by omega
    rw [nth_snoc_end]; omega
theorem small_set {xs : List Int} {x : Int} {i : Nat} (hi : i < xs.length) (h : ∀ k, k < xs.length → -1 ≤ nth xs k ∧ nth xs k ≤ 1024) (h0 : -1 ≤ x) (h1 : x ≤ 1024) : ∀ k, k < (xs.set i x).length → -1 ≤ nth (xs.set i x) k ∧ nth (xs.set i x) k ≤ 1024 := fun j hj => by
  rw [nth_set hi]
  split
  · omega
  · exact h j (by simpa using hj)
def lenV : Value → Nat
  | .slice _ n _ => n
  | _ => 0
set_option maxRecDepth 100000 in
set_option maxHeartbeats 2000000 in
theorem ascent_any (p L m : Nat) (w : World) (h : Cur w p L) (hL : L ≤ 600000000) (hm : m ≤ 12) :
    Calls Try.prog 108 #[.pointer (some ⟨p, 0, none⟩), .int .i64 (m : Int)] w (AscI w p L) := by
  have hpw := h.lt
  have H := Lib.hid h
  clear h
  go_enter Try.func108, Try.ntmps108
  go_wp2_with fail
  refine (pick_any p L ((m : Int) + 1) _ H.out (by omega) (by omega)).mono ?_
  rintro e w1 ⟨r, rfl, hr0, hr1, hc1, hd1⟩
  obtain ⟨n, rfl⟩ := Int.eq_ofNat_of_zero_le hr0
  have hn13 : n ≤ 13 := by omega
  have HC1 := Lib.hid hc1
  have HD1 := Lib.hid hd1
  clear hc1 hd1 hr0 hr1
  go_wp2_with fail
  refine (one_any p (L + 2) 10 _ HC1.out (by omega) (by omega)).mono ?_
  rintro e w2 ⟨he, hc2, hd2⟩
  have HC2 := Lib.hid (hc2.mono (show L + 2 + 2 ≤ L + 6 by omega))
  have HD2 := Lib.hid (HD1.out.trans hd2)
  clear hc2 hd2 HC1 HD1
  rcases he with rfl | rfl
  case' inl =>
    go_wp2_with fail
    refine (pick_any p (L + 6) 2 _ HC2.out (by omega) (by omega)).mono ?_
    rintro e w3 ⟨r, rfl, hr0, hr1, hc3, hd3⟩
    obtain ⟨r0, rfl⟩ := Int.eq_ofNat_of_zero_le hr0
    obtain ⟨n, hn⟩ : ∃ n : Nat, 12 + (r0 : Int) = (n : Int) := ⟨12 + r0, by omega⟩
    have hn13 : n ≤ 13 := by omega
    have HC := Lib.hid (hc3.mono (show L + 6 + 2 ≤ L + 8 by omega))
    have HD := Lib.hid (HD2.out.trans hd3)
    have HN := Lib.hid hn
    clear hc3 hd3 hr0 hr1 HC2 HD2 hn
    go_wp2_with fail
    rw [HN.out, show wrap64 (n : Int) = n from by rw [← i64_wrap]; exact wrap64_small _ (by omega) (by omega)]
    clear HN
    rename World => W
  case' inr =>
    have HC := Lib.hid (HC2.out.mono (show L + 6 ≤ L + 8 by omega))
    have HD := HD2
    clear HC2 HD2
    go_wp2_with fail
    rename World => W
  all_goals
    go_loopw [6] (fun v wr => ∃ (k : Nat) (a : Option Addr) (cap : Nat) (xs : List Int), v = .slice a k cap ∧ xs.length = k ∧ k ≤ 13 ∧ OwnI wr w.heap.size (.slice a k cap) xs ∧ (∀ k, k < xs.length → -1 ≤ nth xs k ∧ nth xs k ≤ 1024) ∧ Cur wr p (L + 8 + 4 * k) ∧ Drawn w wr p) (fun v _ => n - lenV v)
    case atStart => exact ⟨0, none, 0, [], rfl, rfl, by omega, OwnI.nil _ _, fun k hk => by simp at hk, HC.out, HD.out⟩
    case round =>
      obtain ⟨k, a, cap, xs, rfl, hl, hk, ho, hx, hc, hd⟩ := hrel
      have HX := Lib.hid hx
      have HO := Lib.hid ho
      have HCu := Lib.hid hc
      have HDr := Lib.hid hd
      clear hx ho hc hd HC HD
      subst hl
      by_cases hlt : xs.length < n
      · have k1 : (xs.length : Int) < (n : Int) := by omega
        go_wp2_with fail
        refine (asBound_any a xs xs.length cap _ HO.out.rd (Nat.le_refl _)).mono ?_
        rintro e w4 ⟨rfl, hb4⟩
        have hbb := bndTo_le xs xs.length
        generalize bndTo xs xs.length = b at hbb
        have HO4 := Lib.hid (HO.out.below hb4 (Nat.le_refl _))
        have HC4 := Lib.hid (HCu.out.below hb4)
        have HD4 := Lib.hid (HDr.out.below hb4)
        clear hb4
        go_wp2_with fail
        refine (pick_any p (L + 8 + 4 * xs.length) (b + 1) _ HC4.out (by omega) (by omega)).mono ?_
        rintro e w5 ⟨x, rfl, hx0, hx1, hc5, hd5⟩
        have HO5 := Lib.hid (HO4.out.drawn hd5 hpw)
        have HC5 := Lib.hid hc5
        have HD5 := Lib.hid (HD4.out.trans hd5)
        clear hc5 hd5
        go_wp2_with fail
        refine (one_any p (L + 8 + 4 * xs.length + 2) 3 _ HC5.out (by omega) (by omega)).mono ?_
        rintro e w6 ⟨he, hc6, hd6⟩
        have HO6 := Lib.hid (HO5.out.drawn hd6 hpw)
        have HC6 := Lib.hid (hc6.mono (show L + 8 + 4 * xs.length + 2 + 2 ≤ L + 8 + 4 * (xs.length + 1) by omega))
        have HD6 := Lib.hid (HD5.out.trans hd6)
        have hs6 := HD6.out.size
        clear hc6 hd6
        obtain ⟨y, hy, hy0, hy1⟩ : ∃ y : Int, (e = .returned (.bool true) ∧ y = b ∨ e = .returned (.bool false) ∧ y = x) ∧ -1 ≤ y ∧ y ≤ 1024 := by
          rcases he with rfl | rfl
          · exact ⟨b, .inl ⟨rfl, rfl⟩, by omega, by omega⟩
          · exact ⟨x, .inr ⟨rfl, rfl⟩, by omega, by omega⟩
        have HX6 := Lib.hid (small_snoc HX.out hy0 hy1)
        rcases hy with ⟨rfl, rfl⟩ | ⟨rfl, rfl⟩
        all_goals
          go_wp2_with (at_builtin; refine push_at (v := .slice a xs.length cap) (z := y) rfl _ _ rfl rfl HO6.out rfl (by omega) hs6 ?_; intro v7 w7 o7 hg7 hat7; revert hat7)
          intro hat7
          obtain ⟨av7, cv7, ev7⟩ := o7.form
          subst ev7
          have hl7 : (xs ++ [y]).length = xs.length + 1 := by simp
          have hd7 := HD6.out.grown hg7 (fun c e => (HO6.out.lt c e).1)
          have hc7 := HC6.out.kept hg7 (fun g e => by have := (HO6.out.lt g e).1; omega)
          clear hat7 hg7
          go_wp2_with fail
          go_roundw
          case rel => exact ⟨xs.length + 1, av7, cv7, xs ++ [y], by rw [hl7], hl7, by omega, by rw [hl7] at o7; exact o7, HX6.out, hc7, hd7⟩
          case measure => simp [lenV]; omega
      · have k1 : ¬ (xs.length : Int) < (n : Int) := by omega
        have HCu2 := Lib.hid (HCu.out.mono (show L + 8 + 4 * xs.length ≤ L + 60 by omega))
        have hk13 := hk
        clear HCu
        go_wp2_with fail
        refine (pick_any p (L + 60) 14 _ HCu2.out (by omega) (by omega)).mono ?_
        rintro e w4 ⟨r, rfl, hr0, hr1, hc4, hd4⟩
        have HO4 := Lib.hid (HO.out.drawn hd4 hpw)
        have HC4 := Lib.hid hc4
        have HD4 := Lib.hid (HDr.out.trans hd4)
        clear hc4 hd4
        have hs4 := HD4.out.size
        by_cases h0 : r = 0
        · subst h0
          by_cases hl0 : 0 < xs.length
          · have l1 : (0 : Int) < (xs.length : Int) := by omega
            obtain ⟨g, ea, hg0, hg1⟩ := HO4.out.head hl0
            subst ea
            go_wp2_with fail
            refine (pick_any p (L + 62) (xs.length : Int) _ HC4.out (by omega) (by omega)).mono ?_
            rintro e w5 ⟨q, rfl, hq0, hq1, hc5, hd5⟩
            obtain ⟨j, rfl⟩ := Int.eq_ofNat_of_zero_le hq0
            have hj : j < xs.length := by omega
            have HO5 := Lib.hid (HO4.out.drawn hd5 hpw)
            have HC5 := Lib.hid hc5
            have HD5 := Lib.hid (HD4.out.trans hd5)
            clear hc5 hd5
            go_wp2_with fail
            refine (pick_any p (L + 64) 7 _ HC5.out (by omega) (by omega)).mono ?_
            rintro e w6 ⟨z, rfl, hz0, hz1, hc6, hd6⟩
            have HO6 := Lib.hid (HO5.out.drawn hd6 hpw)
            have HD6 := Lib.hid (HD5.out.trans hd6)
            have ho6 := HO6.out
            have ⟨cj, fj⟩ := ho6.at' rfl (i := j) hj
            have j1 : (j : Int) < (xs.length : Int) := by omega
            have HP := Lib.hid ((ho6.put rfl j (z - 1)).1)
            have HC6 := Lib.hid ((hc6.set ⟨g, j, none⟩ (.int .i64 (z - 1)) (show p < g by omega)).mono (show L + 64 + 2 ≤ L + 100 by omega))
            have HD7 := Lib.hid (HD6.out.set ⟨g, j, none⟩ (.int .i64 (z - 1)) hg0)
            have HX6 := Lib.hid (small_set (x := z - 1) hj HX.out (by omega) (by omega))
            have er : IntKind.i64.wrap (z - 1) = z - 1 := wrap64_small _ (by omega) (by omega)
            have HLN : Hid ((xs.set j (z - 1)).length = xs.length) := by simp [Hid]
            clear hc6 hd6 ho6
            go_wp2_with fail
            go_ret
            exact ⟨some ⟨g, 0, none⟩, cap, xs.set j (z - 1), by rw [HLN.out]; rfl, by rw [HLN.out]; exact HP.out, by rw [HLN.out]; omega, HX6.out, HC6.out, HD7.out⟩
          · have l1 : ¬ (0 : Int) < (xs.length : Int) := by omega
            go_wp2_with fail
            go_ret
            exact ⟨a, cap, xs, rfl, HO4.out, by omega, HX.out, HC4.out.mono (by omega), HD4.out⟩
        · have hz0 : (r == 0) = false := by simpa using h0
          by_cases h1 : r = 1
          · subst h1
            go_wp2_with fail
            refine (asBound_any a xs xs.length cap _ HO4.out.rd (Nat.le_refl _)).mono ?_
            rintro e w5 ⟨rfl, hb5⟩
            have hbb := bndTo_le xs xs.length
            generalize bndTo xs xs.length = b at hbb
            have HO5 := Lib.hid (HO4.out.below hb5 (Nat.le_refl _))
            have HC5 := Lib.hid (HC4.out.below hb5)
            have HD5 := Lib.hid (HD4.out.below hb5)
            clear hb5
            go_wp2_with fail
            refine (pick_any p (L + 62) 2 _ HC5.out (by omega) (by omega)).mono ?_
            rintro e w6 ⟨z, rfl, hz0, hz1, hc6, hd6⟩
            have HO6 := Lib.hid (HO5.out.drawn hd6 hpw)
            have HC6 := Lib.hid hc6
            have HD6 := Lib.hid (HD5.out.trans hd6)
            have hs6 := HD6.out.size
            have HX6 := Lib.hid (small_snoc (x := b + z) HX.out (by omega) (by omega))
            have er : IntKind.i64.wrap (b + z) = b + z := wrap64_small _ (by omega) (by omega)
            clear hc6 hd6
            go_wp2_with (at_builtin; refine push_at (v := .slice a xs.length cap) (z := b + z) rfl _ _ rfl rfl HO6.out rfl (by omega) hs6 ?_; intro v7 w7 o7 hg7 hat7; revert hat7)
            intro hat7
            obtain ⟨av7, cv7, ev7⟩ := o7.form
            subst ev7
            have hl7 : (xs ++ [b + z]).length = xs.length + 1 := by simp
            have hd7 := HD6.out.grown hg7 (fun c e => (HO6.out.lt c e).1)
            have hc7 := HC6.out.kept hg7 (fun g e => by have := (HO6.out.lt g e).1; omega)
            clear hat7 hg7
            go_wp2_with fail
            go_ret
            exact ⟨av7, cv7, xs ++ [b + z], rfl, o7, by omega, HX6.out, hc7.mono (by omega), hd7⟩
          · have h11 : (r == 1) = false := by simpa using h1
            go_wp2_with fail
            go_ret
            exact ⟨a, cap, xs, rfl, HO4.out, by omega, HX.out, HC4.out.mono (by omega), HD4.out⟩

/-- a block that begins with this cell -/
def Box1 (w : World) (b : Nat) (u : Value) : Prop := b < w.heap.size ∧ w.cell? ⟨b, 0, none⟩ = some u
theorem Box1.below {w w' : World} {b : Nat} {u : Value} (h : Box1 w b u) (hb : Below w.heap.size w w') : Box1 w' b u :=
  ⟨Nat.lt_of_lt_of_le h.1 hb.size, (hb.cell (p := ⟨b, 0, none⟩) h.1).trans h.2⟩
theorem Box1.new (w : World) (u : Value) (t : TypeId) : Box1 (w.alloc (.cells #[u] t)) w.heap.size u := ⟨by simp, by simp⟩
theorem Box1.kept {w w' : World} {b : Nat} {u : Value} {row : Option Nat} (h : Box1 w b u) (hg : w.grownBy w' row) (hne : some b ≠ row) : Box1 w' b u :=
  ⟨Nat.lt_of_lt_of_le h.1 hg.size, hg.cell h.2 hne⟩
theorem Box1.touch {lo hi : Nat} {w w' : World} {b : Nat} {u : Value} (h : Box1 w b u) (ht : TouchS lo hi w w') (hb : b < lo ∨ hi ≤ b) : Box1 w' b u :=
  ⟨Nat.lt_of_lt_of_le h.1 ht.size, (World.cell?_of_block (w := w) (a := ⟨b, 0, none⟩) (ht.block b h.1 hb)).trans h.2⟩
/-- a block that begins with this cell, which may be written -/
def Var1 (w : World) (b : Nat) (u : Value) : Prop := Box1 w b u ∧ w.frozen? ⟨b, 0, none⟩ = false
theorem Var1.new (w : World) (u : Value) (t : TypeId) : Var1 (w.alloc (.cells #[u] t)) w.heap.size u := ⟨Box1.new w u t, by simp⟩
theorem Var1.below {w w' : World} {b : Nat} {u : Value} (h : Var1 w b u) (hb : Below w.heap.size w w') : Var1 w' b u :=
  ⟨h.1.below hb, (hb.frozen (p := ⟨b, 0, none⟩) h.1.1).trans h.2⟩
theorem Var1.alloc {w : World} {b : Nat} {u : Value} (h : Var1 w b u) (o : Obj) : Var1 (w.alloc o) b u := h.below ((Below.refl _ _).alloc (Nat.le_refl _) o)
theorem Var1.kept {w w' : World} {b : Nat} {u : Value} {row : Option Nat} (h : Var1 w b u) (hg : w.grownBy w' row) (hne : some b ≠ row) : Var1 w' b u :=
  ⟨h.1.kept hg hne, (World.frozen?_of_block (w := w) (a := ⟨b, 0, none⟩) (hg.block b h.1.1 hne)).trans h.2⟩
theorem Var1.set {w : World} {b : Nat} {u : Value} (h : Var1 w b u) (x : Value) : Var1 (w.setCell ⟨b, 0, none⟩ x) b x :=
  ⟨⟨by simpa using h.1.1, World.cell?_setCell_same _ _ _ h.1.2⟩, by simpa using h.2⟩
theorem Var1.other {w : World} {b : Nat} {u : Value} (h : Var1 w b u) {p : Addr} (x : Value) (hne : b ≠ p.block) : Var1 (w.setCell p x) b u :=
  h.kept (grown_set w p x) (by simpa using hne)

theorem RowsP.cut {w : World} {B : Nat} {v : Value} {vl : List Value} {xss : List (List Int)} (h : RowsP w B v vl xss) {U : Nat} (hU : w.heap.size ≤ U) : (∀ c, v.ownBlock = some c → B ≤ c ∧ c < U) ∧ ∀ k, k < xss.length → ∀ c, (valAt vl k).ownBlock = some c → B ≤ c ∧ c < U :=
  ⟨fun c e => by have := h.o.lt c e; omega, fun k hk c e => by have := (h.o.row k hk).lt c e; omega⟩
theorem RowsP.touch {lo hi : Nat} {w w' : World} {B : Nat} {v : Value} {vl : List Value} {xss : List (List Int)} (h : RowsP w B v vl xss) (ht : TouchS lo hi w w') (h1 : ∀ c, v.ownBlock = some c → c < lo ∨ hi ≤ c) (h2 : ∀ k, k < xss.length → ∀ c, (valAt vl k).ownBlock = some c → c < lo ∨ hi ≤ c) : RowsP w' B v vl xss := by
  refine ⟨⟨⟨h.o.own.1, ?_⟩, fun k hk => (h.o.row k hk).touch ht (h2 k hk), h.o.apart⟩, h.pair⟩
  rcases h.o.own.2 with hn | ⟨g, cap, cur, e, hb', hg, rest⟩
  · exact .inl hn
  · refine .inr ⟨g, cap, cur, e, hb', ?_, rest⟩
    rw [ht.block g (Array.getElem?_eq_some_iff.1 hg).1 (h1 g (by rw [e]; rfl))]
    exact hg
theorem RowsP.kept {w w' : World} {B : Nat} {v : Value} {vl : List Value} {xss : List (List Int)} {row : Option Nat} (h : RowsP w B v vl xss) (hg : w.grownBy w' row) (h1 : ∀ c, v.ownBlock = some c → row ≠ some c) (h2 : ∀ k, k < xss.length → ∀ c, (valAt vl k).ownBlock = some c → row ≠ some c) : RowsP w' B v vl xss := by
  have e : ∀ u : Value, (∀ c, u.ownBlock = some c → row ≠ some c) → u.ownBlock = none ∨ u.ownBlock ≠ row := fun u hu => by
    cases hv : u.ownBlock with
    | none => exact .inl rfl
    | some c => exact .inr (fun e => hu c hv e.symm)
  exact ⟨⟨World.ownsRow.kept h.o.own hg (e v h1), fun k hk => (h.o.row k hk).kept hg (e _ (h2 k hk)), h.o.apart⟩, h.pair⟩
theorem OwnS.mono {w : World} {B B' g : Nat} {vl : List Value} {xss : List (List Int)} (h : OwnS w B g vl xss) (hB : B' ≤ B) : OwnS w B' g vl xss := ⟨Nat.le_trans hB h.lo, h.hi, h.max, h.cell, h.row, h.apart⟩
theorem TouchS.of_below {B lo hi : Nat} {w w1 w2 : World} (hb : Below w.heap.size w w1) (h : TouchS lo hi w1 w2) : TouchS lo hi w w2 :=
  ⟨h.os.trans hb.os, h.tape.trans hb.tape, h.output.trans hb.output, Nat.le_trans hb.size h.size, fun k hk hn => (h.block k (Nat.lt_of_lt_of_le hk hb.size) hn).trans (hb.block k hk)⟩

/-- the first of k places where a number is not 0, or k -/
def firstNZ (f : Nat → Int) : Nat → Nat
  | 0 => 0
  | k+1 => if firstNZ f k < k then firstNZ f k else if f k = 0 then k + 1 else k
theorem firstNZ_le (f : Nat → Int) : ∀ k, firstNZ f k ≤ k
  | 0 => Nat.le_refl _
  | k+1 => by rw [firstNZ]; split; (· omega); (· split <;> omega)
theorem firstNZ_all {f : Nat → Int} : ∀ {k : Nat}, (∀ j, j < k → f j = 0) → firstNZ f k = k
  | 0, _ => rfl
  | k+1, h => by
    have h1 := firstNZ_all (f := f) (k := k) (fun j hj => h j (by omega))
    rw [firstNZ, if_neg (by omega), if_pos (h k (by omega))]
theorem firstNZ_at {f : Nat → Int} {k : Nat} (h : ∀ j, j < k → f j = 0) (hk : f k ≠ 0) : ∀ {n : Nat}, k < n → firstNZ f n = k
  | 0, hn => by omega
  | n+1, hn => by
    by_cases e : k = n
    · subst e
      rw [firstNZ, if_neg (by have := firstNZ_all h; omega), if_neg hk]
    · rw [firstNZ, firstNZ_at h hk (by omega), if_pos (by omega)]
theorem firstNZ_zero {f : Nat → Int} : ∀ {n j : Nat}, j < firstNZ f n → f j = 0
  | 0, j, h => by simp [firstNZ] at h
  | n+1, j, h => by
    rw [firstNZ] at h
    split at h
    · exact firstNZ_zero h
    · rename_i h1
      have h2 := firstNZ_le f n
      split at h
      · rename_i h3
        by_cases e : j = n
        · rw [e]; exact h3
        · exact firstNZ_zero (n := n) (by omega)
      · exact firstNZ_zero (n := n) (by omega)
theorem firstNZ_ne {f : Nat → Int} : ∀ {n : Nat}, firstNZ f n < n → f (firstNZ f n) ≠ 0
  | 0, h => by omega
  | n+1, h => by
    by_cases h1 : firstNZ f n < n
    · have e : firstNZ f (n+1) = firstNZ f n := by rw [firstNZ, if_pos h1]
      rw [e]; exact firstNZ_ne h1
    · by_cases h2 : f n = 0
      · have e : firstNZ f (n+1) = n + 1 := by rw [firstNZ, if_neg h1, if_pos h2]
        omega
      · have e : firstNZ f (n+1) = n := by rw [firstNZ, if_neg h1, if_neg h2]
        rw [e]; exact h2
/-- the least row whose number in the last column is not 0 -/
def topN (xss : List (List Int)) : Nat := firstNZ (fun i => atM xss i (xss.length - 1)) xss.length
theorem topN_lt {xss : List (List Int)} (h : mxB xss = true) (hn : 0 < xss.length) : topN xss < xss.length := by
  have h1 := firstNZ_le (fun i => atM xss i (xss.length - 1)) xss.length
  rcases Nat.lt_or_eq_of_le h1 with h2 | h2
  · exact h2
  · exfalso
    have h3 : ∀ i, i < xss.length → atM xss i (xss.length - 1) = 0 := fun i hi => firstNZ_zero (f := fun i => atM xss i (xss.length - 1)) (n := xss.length) (by omega)
    have h4 := (adB_iff.1 (mxB_iff.1 h).2.2).1 (xss.length - 1) (by rw [colsL_len]; omega)
    rw [colsL_row (by omega)] at h4
    have h5 : totR (colL xss (xss.length - 1)) = 0 := by
      rw [totR]
      exact totI_zero (fun j hj => by rw [colL_len] at hj; rw [colL_nth _ hj]; exact h3 j hj)
    omega
theorem topN_zero {xss : List (List Int)} {j : Nat} (h : j < topN xss) : atM xss j (xss.length - 1) = 0 := firstNZ_zero (f := fun i => atM xss i (xss.length - 1)) h
theorem topN_ne {xss : List (List Int)} (h : mxB xss = true) (hn : 0 < xss.length) : atM xss (topN xss) (xss.length - 1) ≠ 0 := firstNZ_ne (f := fun i => atM xss i (xss.length - 1)) (topN_lt h hn)
def topB (xss : List (List Int)) : Bool := mxB xss && decide (xss.length ≠ 0)
def topV (xss : List (List Int)) : Int := if topB xss then ((topN xss : Nat) : Int) else 0
def topI (xss : List (List Int)) : Int := if xss.length = 0 then -1 else ((topN xss : Nat) : Int)

theorem sN_ins {f : Nat → Nat} {x c : Nat} : ∀ {n : Nat}, x ≤ n → sN (fun j => if j < x then f j else if j = x then c else f (j-1)) (n+1) = sN f n + c := by
  intro n
  induction n with
  | zero =>
    intro h
    obtain rfl : x = 0 := by omega
    simp [sN]
  | succ n ih =>
    intro h
    by_cases e : x = n + 1
    · subst e
      rw [sN, sN_cong (g := f) (fun i hi => by rw [if_pos hi])]
      rw [if_neg (by omega), if_pos rfl]
    · rw [sN, ih (by omega), if_neg (by omega), if_neg (by omega), sN]
      simp only [Nat.add_sub_cancel]; omega
/-- one more in the last column, and a new row and a new column -/
def grA (e : Nat → Nat → Nat) (d x i j : Nat) : Nat := e i j + if i = x ∧ j = d - 1 then 1 else 0
def grB (e : Nat → Nat → Nat) (d x i j : Nat) : Nat :=
  if i < x then (if j < x then e i j else if j = x then (if x < d then e i (d-1) else 0) else if j = d then 0 else e i (j-1))
  else if i = x then (if j = d then 1 else 0)
  else (if j < x then e (i-1) j else if j = x then 0 else e (i-1) (j-1))
theorem grB_row {e : Nat → Nat → Nat} {d x i : Nat} (hx : x ≤ d) : sN (grB e d x i) (d+1) = if i < x then sN (e i) d else if i = x then 1 else sN (e (i-1)) d := by
  by_cases h1 : i < x
  · rw [if_pos h1]
    by_cases h2 : x < d
    · obtain ⟨m, rfl⟩ : ∃ m, d = m + 1 := ⟨d - 1, by omega⟩
      rw [sN]
      have e1 : grB e (m+1) x i (m+1) = 0 := by unfold grB; rw [if_pos h1, if_neg (by omega), if_neg (by omega), if_pos rfl]
      have e2 := sN_ins (f := e i) (x := x) (c := e i m) (n := m) (by omega)
      rw [e1, sN_cong (g := fun j => if j < x then e i j else if j = x then e i m else e i (j-1)) (fun j hj => by
        unfold grB
        rw [if_pos h1]
        by_cases g1 : j < x
        · rw [if_pos g1, if_pos g1]
        · rw [if_neg g1, if_neg g1]
          by_cases g2 : j = x
          · rw [if_pos g2, if_pos g2, if_pos h2]; rfl
          · rw [if_neg g2, if_neg g2, if_neg (by omega)]), e2, sN]
      rfl
    · obtain rfl : x = d := by omega
      rw [sN]
      have e1 : grB e x x i x = 0 := by unfold grB; rw [if_pos h1, if_neg (by omega), if_pos rfl, if_neg (by omega)]
      rw [e1, sN_cong (g := e i) (fun j hj => by unfold grB; rw [if_pos h1, if_pos hj])]; rfl
  · rw [if_neg h1]
    by_cases h2 : i = x
    · rw [if_pos h2, sN]
      have e1 : grB e d x i d = 1 := by unfold grB; rw [if_neg h1, if_pos h2, if_pos rfl]
      rw [e1, sN_zero (fun j hj => by unfold grB; rw [if_neg h1, if_pos h2, if_neg (by omega)])]
    · rw [if_neg h2, sN_cong (g := fun j => if j < x then e (i-1) j else if j = x then 0 else e (i-1) (j-1)) (fun j hj => by unfold grB; rw [if_neg h1, if_neg h2]), sN_ins hx]
      rfl
theorem grB_sum {e : Nat → Nat → Nat} {d x : Nat} (hx : x ≤ d) : sN (fun i => sN (grB e d x i) (d+1)) (d+1) = sN (fun i => sN (e i) d) d + 1 := by
  rw [sN_cong (g := fun i => if i < x then sN (e i) d else if i = x then 1 else (fun i => sN (e i) d) (i-1)) (fun i _ => grB_row hx)]
  exact sN_ins (f := fun i => sN (e i) d) hx
theorem grA_sum {e : Nat → Nat → Nat} {d x : Nat} (hx : x < d) : sN (fun i => sN (grA e d x i) d) d = sN (fun i => sN (e i) d) d + 1 := by
  have h1 : ∀ i, sN (grA e d x i) d = sN (e i) d + if i = x then 1 else 0 := by
    intro i
    have : sN (grA e d x i) d = sN (fun j => e i j + if i = x ∧ j = d - 1 then 1 else 0) d := rfl
    rw [this, sN_add]
    congr 1
    rw [sN_one (j := d - 1) (by omega) (fun j hj hne => if_neg (fun h => hne h.2))]
    by_cases h : i = x
    · rw [if_pos ⟨h, rfl⟩, if_pos h]
    · rw [if_neg (fun hh => h hh.1), if_neg h]
  rw [sN_cong (g := fun i => sN (e i) d + if i = x then 1 else 0) (fun i _ => h1 i), sN_add, sN_one (j := x) hx (fun i hi hne => if_neg hne), if_pos rfl]
theorem sN_ex {f : Nat → Nat} : ∀ {n : Nat}, 0 < sN f n → ∃ j, j < n ∧ 0 < f j
  | 0, h => by simp [sN] at h
  | n+1, h => by
    by_cases e : 0 < f n
    · exact ⟨n, by omega, e⟩
    · rw [sN] at h
      obtain ⟨j, hj, h2⟩ := sN_ex (f := f) (n := n) (by omega)
      exact ⟨j, by omega, h2⟩
/-- naturals in d rows and columns that make a matrix -/
structure GoodN (e : Nat → Nat → Nat) (d : Nat) : Prop where
  up : ∀ i, i < d → ∀ j, j < i → e i j = 0
  row : ∀ i, i < d → ∃ j, j < d ∧ 0 < e i j
  col : ∀ j, j < d → ∃ i, i < d ∧ 0 < e i j
theorem good_of {xss : List (List Int)} (h : mxB xss = true) : GoodN (enN xss) xss.length := by
  refine ⟨fun i _ j hj => en_up xss i j hj, fun i hi => ?_, fun j hj => ?_⟩
  · have h1 := (adB_row (mxB_iff.1 h).1 hi).1
    rw [en_totR h hi] at h1
    exact sN_ex (by unfold rS at h1; omega)
  · have h1 := (adB_row (mxB_iff.1 h).2.2 (k := j) (by rw [colsL_len]; exact hj)).1
    rw [colsL_row hj, en_totC h hj] at h1
    exact sN_ex (f := fun i => enN xss i j) (by unfold cS at h1; omega)
theorem mxN_of {e : Nat → Nat → Nat} {d : Nat} (h : GoodN e d) (hs : sN (fun i => sN (e i) d) d ≤ 12) : mxB (sqM (fun i j => (e i j : Int)) d d) = true := by
  rw [mxB_iff]
  refine ⟨ad_sq (fun i hi => ?_) hs, ?_, ?_⟩
  · obtain ⟨j, hj, hp⟩ := h.row i hi
    exact sN_pos hj hp
  · rw [upB_iff]
    intro i hi
    rw [sqM_len] at hi ⊢
    exact ⟨sqM_rlen hi, fun j hj => by rw [sqM_at hi (by omega), h.up i hi j hj]; rfl⟩
  · rw [cols_sq]
    refine ad_sq (e := fun i j => e j i) (fun i hi => ?_) ?_
    · obtain ⟨j, hj, hp⟩ := h.col i hi
      exact sN_pos (f := fun j => e j i) hj hp
    · have := sN_swap (fun i j => e i j) d d
      rw [← this]
      exact hs
theorem grA_good {e : Nat → Nat → Nat} {d x : Nat} (h : GoodN e d) (hx : x < d) : GoodN (grA e d x) d := by
  refine ⟨fun i hi j hj => ?_, fun i hi => ?_, fun j hj => ?_⟩
  · unfold grA
    rw [h.up i hi j hj, if_neg (fun hh => by omega)]
  · obtain ⟨j, hj, hp⟩ := h.row i hi
    exact ⟨j, hj, by unfold grA; omega⟩
  · obtain ⟨i, hi, hp⟩ := h.col j hj
    exact ⟨i, hi, by unfold grA; omega⟩
/-- the new row and column go in behind a row with a number in the last column -/
theorem grB_good {e : Nat → Nat → Nat} {d x : Nat} (h : GoodN e d) (hx : x ≤ d) (ht : x < d → ∃ i, i < x ∧ 0 < e i (d-1)) : GoodN (grB e d x) (d+1) := by
  refine ⟨fun i hi j hj => ?_, fun i hi => ?_, fun j hj => ?_⟩
  · unfold grB
    by_cases h1 : i < x
    · rw [if_pos h1, if_pos (by omega)]
      exact h.up i (by omega) j hj
    · rw [if_neg h1]
      by_cases h2 : i = x
      · rw [if_pos h2, if_neg (by omega)]
      · rw [if_neg h2]
        by_cases h3 : j < x
        · rw [if_pos h3]; exact h.up (i-1) (by omega) j (by omega)
        · rw [if_neg h3]
          by_cases h4 : j = x
          · rw [if_pos h4]
          · rw [if_neg h4]; exact h.up (i-1) (by omega) (j-1) (by omega)
  · have hr := grB_row (e := e) (d := d) (x := x) (i := i) hx
    refine sN_ex ?_
    rw [hr]
    split
    · obtain ⟨j, hj, hp⟩ := h.row i (by omega)
      exact sN_pos hj hp
    · split
      · omega
      · obtain ⟨j, hj, hp⟩ := h.row (i-1) (by omega)
        exact sN_pos hj hp
  · by_cases h1 : j < x
    · obtain ⟨i, hi, hp⟩ := h.col j (by omega)
      by_cases h2 : i < x
      · exact ⟨i, by omega, by unfold grB; rw [if_pos h2, if_pos h1]; exact hp⟩
      · exact ⟨i + 1, by omega, by unfold grB; rw [if_neg (by omega), if_neg (by omega), if_pos h1]; simpa using hp⟩
    · by_cases h2 : j = d
      · exact ⟨x, by omega, by unfold grB; rw [if_neg (by omega), if_pos rfl, if_pos h2]; omega⟩
      · have hxd : x < d := by omega
        by_cases h3 : j = x
        · obtain ⟨i, hi, hp⟩ := ht hxd
          exact ⟨i, by omega, by unfold grB; rw [if_pos hi, if_neg h1, if_pos h3, if_pos hxd]; exact hp⟩
        · obtain ⟨i, hi, hp⟩ := h.col (j-1) (by omega)
          by_cases h4 : i < x
          · exact ⟨i, by omega, by unfold grB; rw [if_pos h4, if_neg h1, if_neg h3, if_neg h2]; exact hp⟩
          · exact ⟨i + 1, by omega, by unfold grB; rw [if_neg (by omega), if_neg (by omega), if_neg h1, if_neg h3]; simpa using hp⟩

/-- the matrix grown by x -/
def grL (xss : List (List Int)) (x : Nat) : List (List Int) :=
  if (x : Int) ≤ topI xss then sqM (fun i j => (grA (enN xss) xss.length x i j : Int)) xss.length xss.length
  else sqM (fun i j => (grB (enN xss) xss.length x i j : Int)) (xss.length + 1) (xss.length + 1)
theorem firstNZ_hit {f : Nat → Int} : ∀ {n : Nat}, firstNZ f n < n → f (firstNZ f n) ≠ 0
  | 0, h => by simp [firstNZ] at h
  | n+1, h => by
    rw [firstNZ] at h ⊢
    by_cases e : firstNZ f n < n
    · rw [if_pos e]; exact firstNZ_hit e
    · rw [if_neg e] at h ⊢
      by_cases e2 : f n = 0
      · rw [if_pos e2] at h; omega
      · rw [if_neg e2]; exact e2
theorem en_eta {xss : List (List Int)} (h : mxB xss = true) : xss = sqM (fun i j => (enN xss i j : Int)) xss.length xss.length := by
  conv => lhs; rw [sq_eta (m := xss.length) (fun i hi => mxB_len h hi)]
  exact sqM_congr (fun i hi j hj => en_at h hi hj)
/-- a matrix in naturals: its numbers, its sum and its top -/
theorem en_sq {e : Nat → Nat → Nat} {d : Nat} (h : GoodN e d) {i j : Nat} (hi : i < d) (hj : j < d) : enN (sqM (fun i j => (e i j : Int)) d d) i j = e i j := by
  unfold enN
  by_cases hji : j < i
  · rw [if_pos hji, h.up i hi j hji]
  · rw [if_neg hji, sqM_at hi hj]; rfl
theorem top_sq {e : Nat → Nat → Nat} {d x : Nat} (hx : x < d) (h0 : ∀ i, i < x → e i (d-1) = 0) (h1 : 0 < e x (d-1)) : topI (sqM (fun i j => (e i j : Int)) d d) = (x : Int) := by
  have hl : (sqM (fun i j => (e i j : Int)) d d).length = d := sqM_len _ _ _
  have ht : topN (sqM (fun i j => (e i j : Int)) d d) = x := by
    unfold topN
    rw [hl]
    refine firstNZ_at (fun i hi => ?_) ?_ hx
    · show atM (sqM (fun i j => (e i j : Int)) d d) i (d-1) = 0
      rw [sqM_at (by omega) (by omega), h0 i hi]; rfl
    · show atM (sqM (fun i j => (e i j : Int)) d d) x (d-1) ≠ 0
      rw [sqM_at hx (by omega)]; omega
  rw [topI, hl, if_neg (by omega), ht]
theorem gr_mx {xss : List (List Int)} (hm : mxB xss = true) {x : Nat} (hx : x ≤ xss.length) (hs : matS xss xss.length < 12) :
    mxB (grL xss x) = true ∧ matS (grL xss x) (grL xss x).length = matS xss xss.length + 1 ∧ topI (grL xss x) = (x : Int) := by
  have hg := good_of hm
  have hsum := en_sum hm xss.length (Nat.le_refl _)
  have hss : sN (fun t => rS (enN xss) t xss.length) xss.length = sN (fun i => sN (enN xss i) xss.length) xss.length := rfl
  rw [hss] at hsum
  have hmat : ∀ (e : Nat → Nat → Nat) (d : Nat), matS (sqM (fun i j => (e i j : Int)) d d) (sqM (fun i j => (e i j : Int)) d d).length = (sN (fun i => sN (e i) d) d : Int) := fun e d => by
    rw [sqM_len]; exact matS_sqN d (Nat.le_refl _)
  unfold grL
  by_cases ht : (x : Int) ≤ topI xss
  · rw [if_pos ht]
    have hd : 0 < xss.length := by
      apply Classical.byContradiction
      intro hn
      rw [topI, if_pos (by omega)] at ht
      omega
    have htl := topN_lt hm hd
    rw [topI, if_neg (by omega)] at ht
    have hxd : x < xss.length := by omega
    have h1 := grA_sum (e := enN xss) hxd
    refine ⟨mxN_of (grA_good hg hxd) (by omega), by rw [hmat]; omega, top_sq hxd (fun i hi => ?_) ?_⟩
    · have hz : atM xss i (xss.length - 1) = 0 := firstNZ_zero (f := fun i => atM xss i (xss.length - 1)) (n := xss.length) (j := i) (by show i < topN xss; omega)
      rw [en_at hm (by omega) (by omega)] at hz
      unfold grA
      rw [if_neg (by omega)]; omega
    · unfold grA
      rw [if_pos ⟨rfl, rfl⟩]; omega
  · rw [if_neg ht]
    have h1 := grB_sum (e := enN xss) hx
    have htt : x < xss.length → ∃ i, i < x ∧ 0 < enN xss i (xss.length - 1) := by
      intro hxd
      have htl := topN_lt hm (by omega)
      rw [topI, if_neg (by omega)] at ht
      refine ⟨topN xss, by omega, ?_⟩
      have hz : atM xss (topN xss) (xss.length - 1) ≠ 0 := firstNZ_hit (f := fun i => atM xss i (xss.length - 1)) htl
      rw [en_at hm htl (by omega)] at hz
      omega
    refine ⟨mxN_of (grB_good hg hx htt) (by omega), by rw [hmat]; omega, top_sq (by omega) (fun i hi => ?_) ?_⟩
    · show grB (enN xss) xss.length x i xss.length = 0
      unfold grB
      rw [if_pos hi, if_neg (by omega)]
      by_cases e1 : xss.length = x
      · rw [if_pos e1, if_neg (by omega)]
      · rw [if_neg e1, if_pos rfl]
    · show 0 < grB (enN xss) xss.length x x xss.length
      unfold grB
      rw [if_neg (by omega), if_pos rfl, if_pos rfl]; omega

/-- in the first k rows the column x and the last one exchanged -/
def swF (f : Nat → Nat → Int) (d x k : Nat) (a b : Nat) : Int := if a < k then (if b = d - 1 then f a x else if b = x then f a (d - 1) else f a b) else f a b
theorem swF_step {f : Nat → Nat → Int} {d x k : Nat} {n : Nat} (hk : k < n) (hx : x < d) : setM (setM (sqM (swF f d x k) n d) k x (f k (d-1))) k (d-1) (f k x) = sqM (swF f d x (k+1)) n d := by
  rw [setM_sq hk hx, setM_sq hk (by omega)]
  refine sqM_congr (fun a ha b hb => ?_)
  rw [swF, swF]
  by_cases h1 : a = k
  · subst h1
    rw [if_pos (show a < a + 1 by omega)]
    by_cases h2 : b = d - 1
    · rw [if_pos ⟨rfl, h2⟩, if_pos h2]
    · rw [if_neg (fun h => h2 h.2), if_neg h2]
      by_cases h3 : b = x
      · rw [if_pos ⟨rfl, h3⟩, if_pos h3]
      · rw [if_neg (fun h => h3 h.2), if_neg h3, if_neg (by omega)]
  · rw [if_neg (fun h => h1 h.1), if_neg (fun h => h1 h.1)]
    by_cases h4 : a < k
    · rw [if_pos h4, if_pos (show a < k + 1 by omega)]
    · rw [if_neg h4, if_neg (show ¬ a < k + 1 by omega)]
theorem swF_zero {f : Nat → Nat → Int} {d x n m : Nat} : sqM (swF f d x 0) n m = sqM f n m := sqM_congr (fun a ha b hb => by rw [swF, if_neg (by omega)])

/-- a row with a zero put in at x -/
def wdF (g : Nat → Int) (x j : Nat) : Int := if j < x then g j else if j = x then 0 else g (j-1)
/-- rows with a row of zeros put in at x -/
def inR (f : Nat → Nat → Int) (x a b : Nat) : Int := if a < x then f a b else if a = x then 0 else f (a-1) b
def grBI (f : Nat → Nat → Int) (d x i j : Nat) : Int :=
  if i < x then (if j < x then f i j else if j = x then (if x < d then f i (d-1) else 0) else if j = d then 0 else f i (j-1))
  else if i = x then (if j = d then 1 else 0)
  else (if j < x then f (i-1) j else if j = x then 0 else f (i-1) (j-1))
def grAI (f : Nat → Nat → Int) (d x i j : Nat) : Int := if i = x ∧ j = d - 1 then f x (d - 1) + 1 else f i j
theorem fmap_ins {g : Nat → Int} {n x : Nat} (hx : x ≤ n) : (fmap g n).take x ++ [0] ++ (fmap g n).drop x = fmap (wdF g x) (n+1) := by
  have hl := fmap_len g n
  have ht : ((fmap g n).take x).length = x := by rw [List.length_take]; omega
  apply List.ext_getElem?
  intro i
  by_cases hi : i < n + 1
  · have e : (fmap (wdF g x) (n+1))[i]? = some (wdF g x i) := by simp [fmap, hi]
    rw [e, wdF]
    by_cases h1 : i < x
    · rw [if_pos h1, List.append_assoc, List.getElem?_append_left (by omega), List.getElem?_take, if_pos h1]
      simp [fmap, show i < n by omega]
    · rw [if_neg h1]
      by_cases h2 : i = x
      · rw [if_pos h2, List.getElem?_append_left (by rw [List.length_append, ht, List.length_singleton]; omega), List.getElem?_append_right (by omega), ht, h2, Nat.sub_self]
        rfl
      · rw [if_neg h2, List.getElem?_append_right (by rw [List.length_append, ht, List.length_singleton]; omega), List.length_append, ht, List.length_singleton, List.getElem?_drop, show x + (i - (x + 1)) = i - 1 by omega]
        simp [fmap, show i - 1 < n by omega]
  · rw [List.getElem?_eq_none (by rw [List.length_append, List.length_append, ht, List.length_drop, List.length_singleton]; omega), List.getElem?_eq_none (by rw [fmap_len]; omega)]
theorem gr_lo {f : Nat → Nat → Int} {d x i : Nat} (hi : i < x) (hx : x < d) : ((fmap (wdF (f i) x) (d+1)).set x (wdF (f i) x d)).set d 0 = fmap (grBI f d x i) (d+1) := by
  rw [list_fmap (((fmap (wdF (f i) x) (d+1)).set x (wdF (f i) x d)).set d 0)]
  simp only [List.length_set, fmap_len]
  refine fmap_ext (fun b hb => ?_)
  rw [nth_setM (by rw [List.length_set, fmap_len]; omega), nth_setM (by rw [fmap_len]; omega), fmap_nth _ hb, grBI, if_pos hi]
  by_cases h3 : b = d
  · rw [if_pos h3, if_neg (show ¬ b < x by omega), if_neg (show ¬ b = x by omega), if_pos h3]
  · rw [if_neg h3]
    by_cases h2 : b = x
    · rw [if_pos h2, if_neg (show ¬ b < x by omega), if_pos h2, if_pos hx, wdF, if_neg (by omega), if_neg (by omega)]
    · rw [if_neg h2, if_neg h2, if_neg h3, wdF, if_neg h2]
theorem gr_end {f : Nat → Nat → Int} {d i : Nat} (hi : i < d) : fmap (wdF (f i) d) (d+1) = fmap (grBI f d d i) (d+1) :=
  fmap_ext (fun b hb => by
    rw [grBI, if_pos hi, wdF]
    by_cases h1 : b < d
    · rw [if_pos h1, if_pos h1]
    · rw [if_neg h1, if_neg h1, if_pos (by omega), if_pos (by omega), if_neg (by omega)])
theorem gr_mid {f : Nat → Nat → Int} {d x : Nat} : ((List.replicate (d+1) (0:Int)).set d 1) = fmap (grBI f d x x) (d+1) := by
  have e : ∀ b, grBI f d x x b = if b = d then 1 else 0 := fun b => by rw [grBI, if_neg (Nat.lt_irrefl x), if_pos rfl]
  rw [list_fmap ((List.replicate (d+1) (0:Int)).set d 1)]
  simp only [List.length_set, List.length_replicate]
  refine fmap_ext (fun b hb => ?_)
  rw [nth_setM (by rw [List.length_replicate]; omega), e]
  by_cases h : b = d
  · rw [if_pos h, if_pos h]
  · rw [if_neg h, if_neg h]
    simp [nth, List.getD_eq_getElem?_getD, List.getElem?_replicate, hb]
theorem gr_hi {f : Nat → Nat → Int} {d x i : Nat} (hi : x < i) : fmap (wdF (f (i-1)) x) (d+1) = fmap (grBI f d x i) (d+1) :=
  fmap_ext (fun b hb => by rw [grBI, if_neg (by omega), if_neg (by omega), wdF])
/-- the program's way: a row, a column, the exchange, one more -/
theorem gr_put {f : Nat → Nat → Int} {d x : Nat} (hx : x ≤ d) : setM (sqM (swF (fun a b => wdF (inR f x a) x b) (d+1) x x) (d+1) (d+1)) x d 1 = sqM (grBI f d x) (d+1) (d+1) := by
  rw [setM_sq (by omega) (by omega)]
  refine sqM_congr (fun a ha b hb => ?_)
  rw [grBI]
  by_cases h1 : a < x
  · have e1 : ∀ q, wdF (inR f x a) x q = if q < x then f a q else if q = x then 0 else f a (q-1) := fun q => by simp only [wdF, inR, if_pos h1]
    rw [if_neg (by omega), if_pos h1, swF, if_pos h1, Nat.add_sub_cancel, e1, e1, e1]
    by_cases h2 : b = d
    · rw [if_pos h2, if_neg (Nat.lt_irrefl x), if_pos rfl, if_neg (show ¬ b < x by omega)]
      by_cases h3 : b = x
      · rw [if_pos h3, if_neg (show ¬ x < d by omega)]
      · rw [if_neg h3, if_pos h2]
    · rw [if_neg h2]
      by_cases h3 : b = x
      · rw [if_pos h3, if_neg (show ¬ d < x by omega), if_neg (show ¬ d = x by omega), if_neg (show ¬ b < x by omega), if_pos h3, if_pos (show x < d by omega)]
      · rw [if_neg h3, if_neg h3, if_neg h3, if_neg h2]
  · rw [if_neg h1, swF, if_neg h1]
    by_cases h2 : a = x
    · rw [if_pos h2]
      by_cases h3 : b = d
      · rw [if_pos ⟨h2, h3⟩, if_pos h3]
      · rw [if_neg (fun h => h3 h.2), if_neg h3]
        simp only [wdF, inR, if_neg h1, if_pos h2, ite_self]
    · rw [if_neg (fun h => h2 h.1), if_neg h2]
      simp only [wdF, inR, if_neg h1, if_neg h2]
/-- the grown matrix of a matrix -/
theorem grL_eq {xss : List (List Int)} (hm : mxB xss = true) {x : Nat} (hx : x ≤ xss.length) : grL xss x = if (x : Int) ≤ topI xss then sqM (grAI (atM xss) xss.length x) xss.length xss.length else sqM (grBI (atM xss) xss.length x) (xss.length + 1) (xss.length + 1) := by
  unfold grL
  by_cases ht : (x : Int) ≤ topI xss
  · rw [if_pos ht, if_pos ht]
    refine sqM_congr (fun i hi j hj => ?_)
    show ((grA (enN xss) xss.length x i j : Nat) : Int) = _
    unfold grA grAI
    by_cases h : i = x ∧ j = xss.length - 1
    · rw [if_pos h, if_pos h, ← h.1, ← h.2, en_at hm hi hj]; omega
    · rw [if_neg h, if_neg h, en_at hm hi hj]; rfl
  · rw [if_neg ht, if_neg ht]
    refine sqM_congr (fun i hi j hj => ?_)
    show ((grB (enN xss) xss.length x i j : Nat) : Int) = _
    unfold grB grBI
    repeat' split
    all_goals first
      | rfl
      | (rw [en_at hm (by omega) (by omega)])

/-- may a matrix be grown by x -/
def gwB (xss : List (List Int)) (x : Int) : Bool := mxB xss && (decide (0 ≤ x) && (decide (x ≤ (xss.length : Int)) && decide (matS xss xss.length < 12)))
theorem gwB_iff {xss : List (List Int)} {x : Int} : gwB xss x = true ↔ mxB xss = true ∧ 0 ≤ x ∧ x ≤ (xss.length : Int) ∧ matS xss xss.length < 12 := by simp [gwB, and_assoc]
def gwL (xss : List (List Int)) (x : Int) : List (List Int) := if gwB xss x then grL xss x.toNat else []
theorem gwL_len (xss : List (List Int)) (x : Int) : (gwL xss x).length + totS (gwL xss x) (gwL xss x).length ≤ 1048576 := by
  unfold gwL
  split
  · rename_i h
    have ⟨hm, h0, h1, h2⟩ := gwB_iff.1 h
    have := mxB_small hm
    rw [grL_eq hm (by omega)]
    split
    · exact sq_len (by omega)
    · exact sq_len (by omega)
  · simp [totS]

/-- one row more at the end of rows that have been made -/
theorem push_row {ops : Array Oper} {rest : List Oper} {o : Oper} {a : Act} {Q : Exit → Act → World → Prop} (hgd : o.guard = none) (s x : Operand)
    (ho : o.op = .call { callee := .builtin .append, args := #[s, x], argTypes := #[60, 60] }) {wr : World} {B C n cp : Nat} {ar : Option Addr} {v : Value} {vl : List Value} {xss : List (List Int)} {r : List Int}
    (hs : a.eval s = v) (hro : RowsP wr B v vl xss) (hrow : OwnI wr C (.slice ar n cp) r) (hx : a.eval x = .slice (some ⟨wr.heap.size, 0, none⟩) 1 1) (h63 : xss.length ≤ 1048576) (hBC : B ≤ C) (hC : C ≤ wr.heap.size)
    (hvC : ∀ c, v.ownBlock = some c → c < C) (hrC : ∀ k, k < xss.length → ∀ c, (valAt vl k).ownBlock = some c → c < C)
    (h : ∀ v' w', RowsP w' B v' (vl ++ [.slice ar n cp]) (xss ++ [r]) → wr.grownBy w' v.ownBlock → wpList Try.prog ops Q rest (a.put o.dst v') w') :
    wpList Try.prog ops Q (o :: rest) a (wr.alloc (.cells #[.slice ar n cp] 24)) := by
  obtain ⟨j0, hj0, hy0, hy1, hy2⟩ := info_parts infoSlice
  have hone := RowsP.one hrow hC
  have b4 : Below wr.heap.size wr (wr.alloc (.cells #[.slice ar n cp] 24)) := (Below.refl _ _).alloc (Nat.le_refl _) _
  have hro4 := hro.below b4 (Nat.le_refl _)
  obtain ⟨av, cv, rfl⟩ := hro.o.form
  refine wpList_append_own_at _ hgd s x 60 ho B 24 j0 (.slice none 0 0) 1 24 Try.underlying60 hj0 hy0 hy1 hy2 rfl (by decide) (.slice av xss.length cv) xss.length vl hs hro4.o.own ⟨wr.heap.size, 0, none⟩ 1 1 [.slice ar n cp] hx rfl (cell_one_new _ _ _) (by intro u hu; simp at hu; subst hu; rfl) (by unfold maxLen; omega) (by omega) (by simp; omega) ?_
  intro v' w' ho2 hg _ hat
  exact h v' w' (hro4.cat hone hBC hvC hrC ho2 hg hat) (grown_alloc_set hg)

theorem RowsP.setBelow {w : World} {B : Nat} {v : Value} {vl : List Value} {xss : List (List Int)} (h : RowsP w B v vl xss) {p : Addr} (hp : p.block < B) (u : Value) : RowsP (w.setCell p u) B v vl xss :=
  ⟨⟨ownsRow_setCell_below h.o.own hp u, fun k hk => (h.o.row k hk).setBelow hp u, h.o.apart⟩, h.pair⟩
theorem sqM_succ (f : Nat → Nat → Int) (n m : Nat) : sqM f (n+1) m = sqM f n m ++ [fmap (f n) m] := by
  simp [sqM, List.range_succ]
/-- a matrix as a result -/
def GotM (e : Ending) (w w' : World) (L : List (List Int)) (b : Bool) : Prop := ∃ a c vl, e = .returned (.tuple #[.agg #[.slice a L.length c], .bool b]) ∧ RowsP w' w.heap.size (.slice a L.length c) vl L ∧ Below w.heap.size w w'
/-- a matrix that may be one -/
theorem mx_eta {xss : List (List Int)} (h : mxB xss = true) : xss = sqM (atM xss) xss.length xss.length := sq_eta (fun i hi => mxB_len h hi)

/-- the matrix of the first k numbers of an ascent sequence -/
def moK (xs : List Int) : Nat → List (List Int)
  | 0 => []
  | k+1 => grL (moK xs k) (nth xs k).toNat
def moaL (xs : List Int) : List (List Int) := if ascB xs then moK xs xs.length else []
theorem grL_len {xss : List (List Int)} {x : Nat} : (grL xss x).length = if (x : Int) ≤ topI xss then xss.length else xss.length + 1 := by
  unfold grL
  split
  · rw [sqM_len]
  · rw [sqM_len]
theorem moK_ok {xs : List Int} (h : ascB xs = true) : ∀ {k : Nat}, k ≤ xs.length →
    mxB (moK xs k) = true ∧ matS (moK xs k) (moK xs k).length = (k : Int) ∧ topI (moK xs k) = clLast xs k ∧ ((moK xs k).length : Int) = clAsc xs k + 1
  | 0, _ => ⟨by show mxB [] = true; decide, by simp [moK, matS], by simp [moK, topI, clLast], by simp [moK, clAsc]⟩
  | k+1, hk => by
    have ⟨h1, h2, h3, h4⟩ := moK_ok h (k := k) (by omega)
    have ⟨h5, h6⟩ := ascB_nth h (k := k) (by omega)
    have h7 := clAsc_bnd xs k
    have h8 := (ascB_iff.1 h).1
    have hx : (nth xs k).toNat ≤ (moK xs k).length := by omega
    have ⟨g1, g2, g3⟩ := gr_mx h1 hx (by omega)
    refine ⟨g1, ?_, ?_, ?_⟩
    · show matS (grL (moK xs k) (nth xs k).toNat) (grL (moK xs k) (nth xs k).toNat).length = _
      rw [g2, h2]; omega
    · show topI (grL (moK xs k) (nth xs k).toNat) = _
      rw [g3, clLast_succ]; omega
    · show ((grL (moK xs k) (nth xs k).toNat).length : Int) = _
      rw [grL_len, ← clAsc_succ (k := k) h5, byA, h3]
      by_cases h9 : clLast xs k < nth xs k
      · rw [if_pos h9, if_neg (by omega)]; omega
      · rw [if_neg h9, if_pos (by omega)]; omega
theorem moK_gw {xs : List Int} (h : ascB xs = true) {k : Nat} (hk : k < xs.length) : gwB (moK xs k) (nth xs k) = true := by
  have ⟨h1, h2, h3, h4⟩ := moK_ok h (k := k) (by omega)
  have ⟨h5, h6⟩ := ascB_nth h hk
  have h7 := clAsc_bnd xs k
  have h8 := (ascB_iff.1 h).1
  rw [gwB_iff]
  exact ⟨h1, h5, by omega, by omega⟩
theorem moK_next {xs : List Int} (h : ascB xs = true) {k : Nat} (hk : k < xs.length) : gwL (moK xs k) (nth xs k) = moK xs (k+1) := by rw [gwL, moK_gw h hk, if_pos rfl]; rfl
theorem moK_size {xs : List Int} (h : ascB xs = true) {k : Nat} (hk : k ≤ xs.length) : (moK xs k).length + totS (moK xs k) (moK xs k).length ≤ 1048576 := by
  have ⟨h1, _⟩ := moK_ok h hk
  have h12 := mxB_small h1
  have e := mx_eta h1
  rw [e]
  exact sq_len (by omega)
theorem moaL_len (xs : List Int) : (moaL xs).length + totS (moaL xs) (moaL xs).length ≤ 1048576 := by
  unfold moaL
  split
  · rename_i h
    exact moK_size h (Nat.le_refl _)
  · simp [totS]

/-- a matrix in a box, as it is drawn -/
structure MatK (w : World) (p L bm : Nat) (a : Option Addr) (c : Nat) (vl : List Value) (xss : List (List Int)) (W : World) : Prop where
  z : Var1 W w.heap.size (.slice none 0 0)
  m : Var1 W bm (.slice a xss.length c)
  r : RowsP W (w.heap.size + 1) (.slice a xss.length c) vl xss
  cu : Cur W p L
  d : Drawn w W p
  hp : p < w.heap.size
  hb : w.heap.size < bm
  nb : (∀ g, (Value.slice a xss.length c).ownBlock = some g → g ≠ bm) ∧ ∀ k, k < xss.length → ∀ g, (valAt vl k).ownBlock = some g → g ≠ bm
theorem RowsP.lo {w : World} {B : Nat} {v : Value} {vl : List Value} {xss : List (List Int)} (h : RowsP w B v vl xss) {p : Nat} (hp : p < B) : (∀ c, v.ownBlock = some c → some p ≠ some c) ∧ ∀ k, k < xss.length → ∀ c, (valAt vl k).ownBlock = some c → some p ≠ some c :=
  ⟨fun c e e2 => by have := ((h.cut (Nat.le_refl _)).1 c e).1; simp only [Option.some.injEq] at e2; omega, fun k hk c e e2 => by have := ((h.cut (Nat.le_refl _)).2 k hk c e).1; simp only [Option.some.injEq] at e2; omega⟩
theorem RowsP.drawn {w W : World} {B p : Nat} {v : Value} {vl : List Value} {xss : List (List Int)} (h : RowsP w B v vl xss) (hd : Drawn w W p) (hp : p < B) : RowsP W B v vl xss :=
  h.kept hd (h.lo hp).1 (h.lo hp).2
theorem Var1.drawn {w w' : World} {p b : Nat} {u : Value} (h : Var1 w b u) (hd : Drawn w w' p) (hne : b ≠ p) : Var1 w' b u := h.kept hd (by simpa using hne)
theorem MatK.drawn {w W W' : World} {p L L' bm c : Nat} {a : Option Addr} {vl : List Value} {xss : List (List Int)} (h : MatK w p L bm a c vl xss W) (hd : Drawn W W' p) (hc : Cur W' p L') : MatK w p L' bm a c vl xss W' :=
  ⟨h.z.drawn hd (by have := h.hp; omega), h.m.drawn hd (by have := h.hp; have := h.hb; omega), h.r.drawn hd (by have := h.hp; omega), hc, h.d.trans hd, h.hp, h.hb, h.nb⟩
theorem MatK.below {w W W' : World} {p L bm c : Nat} {a : Option Addr} {vl : List Value} {xss : List (List Int)} (h : MatK w p L bm a c vl xss W) (hb : Below W.heap.size W W') : MatK w p L bm a c vl xss W' :=
  ⟨h.z.below hb, h.m.below hb, h.r.below hb (Nat.le_refl _), h.cu.below hb, h.d.below hb, h.hp, h.hb, h.nb⟩
theorem MatK.drawnR {w W W' : World} {p L bm c : Nat} {a : Option Addr} {vl : List Value} {xss : List (List Int)} (h : MatK w p L bm a c vl xss W) (hd : Drawn W W' p) : RowsP W' (w.heap.size + 1) (.slice a xss.length c) vl xss := h.r.drawn hd (by have := h.hp; omega)
theorem rows_cap {w : World} {B n c g : Nat} {vl : List Value} {xss : List (List Int)} (h : RowsP w B (.slice (some ⟨g, 0, none⟩) n c) vl xss) : n ≤ c := by
  rcases h.o.own.2 with ⟨e, h0⟩ | ⟨g', cap3, cur, e, hb, hg, h3, h4, _⟩
  · simp at e
  · simp only [Value.slice.injEq] at e
    obtain ⟨_, rfl, rfl⟩ := e
    have := h.o.vlen
    omega
/-- rows without the first one -/
theorem RdC.tail {w : World} {b off : Nat} {xss : List (List Int)} (h : RdC w (some ⟨b, off, none⟩) xss) : RdC w (some ⟨b, off + 1, none⟩) (xss.drop 1) := by
  have e : ∀ k, rowL (xss.drop 1) k = rowL xss (k + 1) := fun k => by simp [rowL, Nat.add_comm 1 k]
  have hl : (xss.drop 1).length = xss.length - 1 := by simp
  refine ⟨⟨by have := h.rd.len; omega, fun k hk => ?_⟩, fun k hk => ?_⟩
  · obtain ⟨b', off', a', c', e1, h1, h2, h3⟩ := h.rd.row (k+1) (by omega)
    simp only [Option.some.injEq, Addr.mk.injEq, and_true] at e1
    obtain ⟨rfl, rfl⟩ := e1
    rw [e k]
    exact ⟨b, off + 1, a', c', rfl, h1, by rw [Nat.add_assoc, Nat.add_comm 1 k]; exact h2, h3⟩
  · obtain ⟨b', off', a', c', e1, h2, h3⟩ := h.cap (k+1) (by omega)
    simp only [Option.some.injEq, Addr.mk.injEq, and_true] at e1
    obtain ⟨rfl, rfl⟩ := e1
    rw [e k]
    exact ⟨b, off + 1, a', c', rfl, by rw [Nat.add_assoc, Nat.add_comm 1 k]; exact h2, h3⟩
/-- rows that can be read: all that have been made, or all but the first -/
def MatR (w : World) (B : Nat) (a : Option Addr) (xss : List (List Int)) : Prop :=
  ∃ (a0 : Option Addr) (c0 : Nat) (vl : List Value) (yss : List (List Int)), RowsP w B (.slice a0 yss.length c0) vl yss ∧ ((a = a0 ∧ xss = yss) ∨ (∃ g, a0 = some ⟨g, 0, none⟩ ∧ a = some ⟨g, 1, none⟩ ∧ xss = yss.drop 1))
theorem MatR.kept {w w' : World} {B q : Nat} {a : Option Addr} {xss : List (List Int)} (h : MatR w B a xss) (hg : w.grownBy w' (some q)) (hq : q < B) : MatR w' B a xss := by
  obtain ⟨a0, c0, vl, yss, hr, h2⟩ := h
  exact ⟨a0, c0, vl, yss, hr.kept hg (hr.lo hq).1 (hr.lo hq).2, h2⟩
theorem MatR.below {w w' : World} {B : Nat} {a : Option Addr} {xss : List (List Int)} (h : MatR w B a xss) (hb : Below w.heap.size w w') : MatR w' B a xss := by
  obtain ⟨a0, c0, vl, yss, hr, h2⟩ := h
  exact ⟨a0, c0, vl, yss, hr.below hb (Nat.le_refl _), h2⟩
theorem MatR.rdC {w : World} {B : Nat} {a : Option Addr} {xss : List (List Int)} (h : MatR w B a xss) : RdC w a xss := by
  obtain ⟨a0, c0, vl, yss, hr, (⟨rfl, rfl⟩ | ⟨g, rfl, rfl, rfl⟩)⟩ := h
  · exact hr.rdC
  · exact hr.rdC.tail
/-- a matrix that has been drawn -/
def MatD (w : World) (p L : Nat) (e : Ending) (w' : World) : Prop :=
  ∃ (a : Option Addr) (c : Nat) (xss : List (List Int)), e = .returned (.agg #[.slice a xss.length c]) ∧ MatR w' (w.heap.size + 1) a xss ∧ xss.length ≤ 20 ∧ xss.length + totS xss xss.length ≤ 1048576 ∧ Cur w' p L ∧ Drawn w w' p
theorem tot_rows {xss : List (List Int)} (h : ∀ k, k < xss.length → (rowL xss k).length ≤ 20) : ∀ k, k ≤ xss.length → totS xss k ≤ 20 * k
  | 0, _ => by simp [totS]
  | k+1, hk => by
    have := tot_rows h k (by omega)
    have := h k (by omega)
    rw [totS]; omega
theorem tot_fine {xss : List (List Int)} (h : ∀ k, k < xss.length → (rowL xss k).length ≤ 20) (hl : xss.length ≤ 20) : xss.length + totS xss xss.length ≤ 1048576 := by
  have := tot_rows h xss.length (Nat.le_refl _)
  omega
theorem moK_rows {xs : List Int} (h : ascB xs = true) : (moK xs xs.length).length ≤ 12 ∧ ∀ k, k < (moK xs xs.length).length → (rowL (moK xs xs.length) k).length = (moK xs xs.length).length := by
  have h1 := (moK_ok h (Nat.le_refl _)).1
  have h2 := mxB_small h1
  exact ⟨h2, fun k hk => mxB_len h1 hk⟩
/-- the end of the draw: a matrix that has been read out of its box -/
theorem mat_end {w W : World} {p L : Nat} {a : Option Addr} {c : Nat} {xss : List (List Int)} (hz : Var1 W w.heap.size (.slice none 0 0)) (hr : MatR (W.setCell ⟨w.heap.size, 0, none⟩ (.slice a xss.length c)) (w.heap.size + 1) a xss) (hl : xss.length ≤ 20) (ht : xss.length + totS xss xss.length ≤ 1048576) (hc : Cur W p L) (hd : Drawn w W p) (hp : p < w.heap.size) :
    Var1 (W.setCell ⟨w.heap.size, 0, none⟩ (.slice a xss.length c)) w.heap.size (.slice a xss.length c) ∧ MatD w p L (.returned (.agg #[.slice a xss.length c])) (W.setCell ⟨w.heap.size, 0, none⟩ (.slice a xss.length c)) :=
  ⟨hz.set _, a, c, xss, rfl, hr, hl, ht, hc.set ⟨w.heap.size, 0, none⟩ _ hp, hd.set ⟨w.heap.size, 0, none⟩ _ (Nat.le_refl _)⟩
theorem MatK.done {w W : World} {p L bm c : Nat} {a : Option Addr} {vl : List Value} {xss : List (List Int)} (h : MatK w p L bm a c vl xss W) (hl : xss.length ≤ 20) (hk : ∀ k, k < xss.length → (rowL xss k).length ≤ 20) :
    Var1 (W.setCell ⟨w.heap.size, 0, none⟩ (.slice a xss.length c)) w.heap.size (.slice a xss.length c) ∧ MatD w p L (.returned (.agg #[.slice a xss.length c])) (W.setCell ⟨w.heap.size, 0, none⟩ (.slice a xss.length c)) :=
  mat_end h.z ⟨a, c, vl, xss, h.r.setBelow (p := ⟨w.heap.size, 0, none⟩) (show w.heap.size < w.heap.size + 1 by omega) (.slice a xss.length c), .inl ⟨rfl, rfl⟩⟩ hl (tot_fine hk hl) h.cu h.d h.hp
theorem MatK.box {w W : World} {p L bm c : Nat} {a : Option Addr} {vl : List Value} {xss : List (List Int)} (h : MatK w p L bm a c vl xss W) (x : Value) : RowsP (W.setCell ⟨bm, 0, none⟩ x) (w.heap.size + 1) (.slice a xss.length c) vl xss :=
  h.r.kept (grown_set W ⟨bm, 0, none⟩ x) (fun g e e2 => h.nb.1 g e (by simpa using e2.symm)) (fun k hk g e e2 => h.nb.2 k hk g e (by simpa using e2.symm))
/-- a number of the matrix is written -/
theorem MatK.put {w W : World} {p L bm c : Nat} {a : Option Addr} {vl : List Value} {xss : List (List Int)} (h : MatK w p L bm a c vl xss W) {i j : Nat} (hi : i < xss.length) (hj : j < (rowL xss i).length) : ∃ g cr, valAt vl i = .slice (some ⟨g, 0, none⟩) (rowL xss i).length cr ∧ (∃ z, W.cell? ⟨g, j, none⟩ = some z) ∧ W.frozen? ⟨g, j, none⟩ = false ∧ ∀ x : Int, MatK w p L bm a c vl (setM xss i j x) (W.setCell ⟨g, j, none⟩ (.int .i64 x)) := by
  obtain ⟨g, cr, e, hg0, hg1, hc, hf, hs⟩ := h.r.num hi hj
  have hgb : g ≠ bm := h.nb.2 i hi g (by rw [e]; rfl)
  refine ⟨g, cr, e, ⟨_, hc⟩, hf, fun x => ?_⟩
  have hp := h.hp
  have hl := setM_len xss i j x
  refine ⟨h.z.other (p := ⟨g, j, none⟩) _ (show w.heap.size ≠ g by omega), by rw [hl]; exact h.m.other (p := ⟨g, j, none⟩) _ (fun e => hgb e.symm), by rw [hl]; exact hs x, h.cu.set ⟨g, j, none⟩ _ (show p < g by omega), h.d.set ⟨g, j, none⟩ _ (show w.heap.size ≤ g by omega), hp, h.hb, ?_⟩
  rw [hl]; exact h.nb
theorem setM_rlen {xss : List (List Int)} {i j k : Nat} {x : Int} (hi : i < xss.length) : (rowL (setM xss i j x) k).length = (rowL xss k).length := by
  rw [setM_row hi]
  split
  · rename_i e; rw [List.length_set, e]
  · rfl
/-- one row more at the end, and where the rows lie then -/
theorem push_rowAt {ops : Array Oper} {rest : List Oper} {o : Oper} {a : Act} {Q : Exit → Act → World → Prop} (hgd : o.guard = none) (s x : Operand)
    (ho : o.op = .call { callee := .builtin .append, args := #[s, x], argTypes := #[60, 60] }) {wr : World} {B C n cp : Nat} {ar : Option Addr} {v : Value} {vl : List Value} {xss : List (List Int)} {r : List Int}
    (hs : a.eval s = v) (hro : RowsP wr B v vl xss) (hrow : OwnI wr C (.slice ar n cp) r) (N : Nat) (hN : wr.heap.size = N) (hx : a.eval x = .slice (some ⟨N, 0, none⟩) 1 1) (h63 : xss.length ≤ 1048576) (hBC : B ≤ C) (hC : C ≤ wr.heap.size)
    (hvC : ∀ c, v.ownBlock = some c → c < C) (hrC : ∀ k, k < xss.length → ∀ c, (valAt vl k).ownBlock = some c → c < C)
    (h : ∀ v' w', RowsP w' B v' (vl ++ [.slice ar n cp]) (xss ++ [r]) → wr.grownBy w' v.ownBlock → (v'.ownBlock = v.ownBlock ∨ v'.ownBlock = some (N + 1)) → wpList Try.prog ops Q rest (a.put o.dst v') w') :
    wpList Try.prog ops Q (o :: rest) a (wr.alloc (.cells #[.slice ar n cp] 24)) := by
  subst hN
  obtain ⟨j0, hj0, hy0, hy1, hy2⟩ := info_parts infoSlice
  have hone := RowsP.one hrow hC
  have b4 : Below wr.heap.size wr (wr.alloc (.cells #[.slice ar n cp] 24)) := (Below.refl _ _).alloc (Nat.le_refl _) _
  have hro4 := hro.below b4 (Nat.le_refl _)
  obtain ⟨av, cv, rfl⟩ := hro.o.form
  refine wpList_append_own_at _ hgd s x 60 ho B 24 j0 (.slice none 0 0) 1 24 Try.underlying60 hj0 hy0 hy1 hy2 rfl (by decide) (.slice av xss.length cv) xss.length vl hs hro4.o.own ⟨wr.heap.size, 0, none⟩ 1 1 [.slice ar n cp] hx rfl (cell_one_new _ _ _) (by intro u hu; simp at hu; subst hu; rfl) (by unfold maxLen; omega) (by omega) (by simp; omega) ?_
  intro v' w' ho2 hg _ hat
  exact h v' w' (hro4.cat hone hBC hvC hrC ho2 hg hat) (grown_alloc_set hg) (by simpa using hat)
theorem mat_row {w W : World} {p L bm c g : Nat} {vl : List Value} {xss : List (List Int)} (h : MatK w p L bm (some ⟨g, 0, none⟩) c vl xss W) {i gr cr n : Nat} (hi : i < xss.length) (e : valAt vl i = .slice (some ⟨gr, 0, none⟩) (rowL xss i).length cr) (hn : (rowL xss i).length = n) : W.cell? ⟨g, i, none⟩ = some (.slice (some ⟨gr, 0, none⟩) n cr) := by
  obtain ⟨g', ea, _, _, hc, _⟩ := h.r.outer hi
  simp only [Option.some.injEq, Addr.mk.injEq, and_true] at ea
  subst ea
  rw [hc, e, hn]

theorem Rd.drawn {w w' : World} {p : Nat} {a : Option Addr} {xs : List Int} (h : Rd w a xs) (hd : Drawn w w' p) (hne : ∀ b off, a = some ⟨b, off, none⟩ → b ≠ p) : Rd w' a xs :=
  ⟨h.len, fun k hk => by
    obtain ⟨b, off, e, hl, hc⟩ := h.cell k hk
    exact ⟨b, off, e, Nat.lt_of_lt_of_le hl hd.size, World.grownBy.cell hd hc (by have := hne b off e; simp; omega)⟩⟩
theorem among_any (p L : Nat) (a : Option Addr) (xs : List Int) (n cap : Nat) (w : World) (h : Cur w p L) (hL : L ≤ 900000000) (hx : Rd w a xs) (hl : xs.length = n) (h0 : 0 < n) (h1 : n ≤ 1000) (hne : ∀ b off, a = some ⟨b, off, none⟩ → b ≠ p) :
    Calls Try.prog 135 #[.pointer (some ⟨p, 0, none⟩), .slice a n cap] w fun e w' => ∃ k, k < n ∧ e = .returned (.int .i64 (nth xs k)) ∧ Cur w' p (L+2) ∧ Drawn w w' p := by
  have H := Lib.hid h
  have HX := Lib.hid hx
  have HNE := Lib.hid hne
  have HL := Lib.hid hl
  clear h hx hne hl
  go_enter Try.func135, Try.ntmps135
  go_wp2_with fail
  refine (pick_any p L (n : Int) _ H.out hL (by omega)).mono ?_
  rintro e w1 ⟨r, rfl, hr0, hr1, hc1, hd1⟩
  have HC1 := Lib.hid hc1
  have HD1 := Lib.hid hd1
  clear hc1 hd1
  obtain ⟨k, rfl⟩ := Int.eq_ofNat_of_zero_le hr0
  have hk : k < n := by omega
  obtain ⟨b, off, rfl, hbl, hc⟩ := (HX.out.drawn HD1.out HNE.out).cell k (by rw [HL.out]; exact hk)
  have k1 : (k : Int) < (n : Int) := by omega
  clear hr0 hr1
  go_wp2_with fail
  go_ret
  exact ⟨k, hk, rfl, HC1.out, HD1.out⟩

/-- the set of all elements above one of those of a set that are less than k -/
def aboveTo (xs : List Int) (s : Int) : Nat → Nat
  | 0 => 0
  | k+1 => if hasB s k then aboveTo xs s k ||| (nth xs k).toNat else aboveTo xs s k
theorem aboveTo_lt {n : Int} {xs : List Int} (hp : RelP n xs) (s : Int) : ∀ k, k ≤ xs.length → aboveTo xs s k < 2 ^ 10
  | 0, _ => by simp [aboveTo]
  | k+1, hk => by
    have h := aboveTo_lt hp s k (by omega)
    have h1 := hp.small k (by omega)
    have h0 := hp.pos k (by omega)
    simp only [aboveTo]
    split
    · exact or_lt h (by omega)
    · exact h
theorem aboveTo_bit (xs : List Int) (s : Int) (j : Nat) : ∀ k, (aboveTo xs s k).testBit j = true ↔ ∃ i, i < k ∧ hasB s i = true ∧ (nth xs i).toNat.testBit j = true
  | 0 => by simp [aboveTo]
  | k+1 => by
    have ih := aboveTo_bit xs s j k
    simp only [aboveTo]
    cases hb : hasB s k
    · rw [if_neg (by simp), ih]
      constructor
      · rintro ⟨i, h1, h2, h3⟩
        exact ⟨i, by omega, h2, h3⟩
      · rintro ⟨i, h1, h2, h3⟩
        have : i ≠ k := fun e => by rw [e, hb] at h2; cases h2
        exact ⟨i, by omega, h2, h3⟩
    · rw [if_pos rfl, Nat.testBit_or, Bool.or_eq_true, ih]
      constructor
      · rintro (⟨i, h1, h2, h3⟩ | h)
        · exact ⟨i, by omega, h2, h3⟩
        · exact ⟨k, by omega, hb, h⟩
      · rintro ⟨i, h1, h2, h3⟩
        by_cases e : i = k
        · subst e; exact .inr h3
        · exact .inl ⟨i, by omega, h2, h3⟩
theorem okAtB_above {xs : List Int} {k : Nat} (h : hasB (nth xs k) k = false) : okAtB xs k = (sub (aboveTo xs (nth xs k) xs.length) (nth xs k).toNat == 0) := by
  rw [Bool.eq_iff_iff, okAtB_iff, beq_iff_eq, sub_zero]
  constructor
  · rintro ⟨_, h2⟩ i hi
    obtain ⟨j, hj, hb, ht⟩ := (aboveTo_bit _ _ _ _).1 hi
    exact sub_zero.1 (h2 j hj hb) i ht
  · intro h2
    refine ⟨h, fun j hj hb => sub_zero.2 (fun i hi => h2 i ((aboveTo_bit _ _ _ _).2 ⟨j, hj, hb, hi⟩))⟩

/-- is the number at k an element, and greater than the one before it? -/
def okI (n : Int) (es : List Int) (k : Nat) : Bool := elemB (nth es k) n && (k == 0 || decide (nth es (k-1) < nth es k))
def incB (n : Int) (es : List Int) : Bool := (List.range es.length).all (okI n es)
theorem incB_iff {n : Int} {es : List Int} : incB n es = true ↔ ∀ k, k < es.length → okI n es k = true := by simp [incB]
theorem incB_no {n : Int} {es : List Int} {k : Nat} (hk : k < es.length) (h : okI n es k = false) : incB n es = false := by
  rw [← Bool.not_eq_true, incB_iff]
  intro h2
  rw [h2 k hk] at h
  cases h
theorem okI_elem {n : Int} {es : List Int} {k : Nat} (h : okI n es k = true) : 0 ≤ nth es k ∧ nth es k < n := by
  simp only [okI, Bool.and_eq_true] at h
  exact elemB_iff.1 h.1
theorem inc_ge {n : Int} {es : List Int} (h : ∀ k, k < es.length → okI n es k = true) : ∀ k, k < es.length → (k : Int) ≤ nth es k
  | 0, hk => by have := (okI_elem (h 0 hk)).1; simpa using this
  | k+1, hk => by
    have ih := inc_ge h k (by omega)
    have := h (k+1) hk
    simp only [okI, Bool.and_eq_true, Bool.or_eq_true, beq_iff_eq, decide_eq_true_eq] at this
    rcases this.2 with h0 | h0
    · omega
    · simp only [Nat.add_sub_cancel] at h0
      push_cast
      omega
theorem inc_len {n : Int} {es : List Int} (h : incB n es = true) (hn : 0 ≤ n) : (es.length : Int) ≤ n := by
  rw [incB_iff] at h
  rcases Nat.eq_zero_or_pos es.length with h0 | h0
  · omega
  · have h1 := inc_ge h (es.length - 1) (by omega)
    have h2 := (okI_elem (h (es.length - 1) (by omega))).2
    omega

/-- the set of the first k numbers of a list -/
def setTo (es : List Int) : Nat → Nat
  | 0 => 0
  | k+1 => setTo es k ||| 2 ^ (nth es k).toNat
/-- how many numbers less than n are in a set -/
def card (s : Nat) : Nat → Nat
  | 0 => 0
  | n+1 => card s n + (if s.testBit n then 1 else 0)
theorem card_or (s x : Nat) : ∀ n, card (s ||| 2 ^ x) n = card s n + (if x < n ∧ s.testBit x = false then 1 else 0)
  | 0 => by simp [card]
  | n+1 => by
    have ih := card_or s x n
    simp only [card, ih, Nat.testBit_or, testBit_two]
    by_cases h : x = n
    · subst h
      cases s.testBit x <;> simp
    · have h2 : x < n + 1 ↔ x < n := by omega
      simp only [h, decide_false, Bool.or_false, h2]
      omega
theorem card_le (s : Nat) : ∀ n, card s n ≤ n
  | 0 => Nat.le_refl _
  | n+1 => by
    have := card_le s n
    simp only [card]
    split <;> omega
theorem card_full {s : Nat} : ∀ n, card s n = n → ∀ i, i < n → s.testBit i = true
  | 0, _, i, hi => by omega
  | n+1, h, i, hi => by
    have h1 := card_le s n
    simp only [card] at h
    cases hb : s.testBit n
    · rw [hb] at h
      simp at h
      omega
    · rw [hb] at h
      simp at h
      by_cases e : i = n
      · rw [e]; exact hb
      · exact card_full n h i (by omega)
theorem card_all {s : Nat} : ∀ n, (∀ i, i < n → s.testBit i = true) → card s n = n
  | 0, _ => rfl
  | n+1, h => by
    simp only [card, h n (by omega), if_true]
    rw [card_all n (fun i hi => h i (by omega))]
theorem setTo_bit (es : List Int) (j : Nat) : ∀ k, (setTo es k).testBit j = true ↔ ∃ i, i < k ∧ (nth es i).toNat = j
  | 0 => by simp [setTo]
  | k+1 => by
    have ih := setTo_bit es j k
    simp only [setTo]
    rw [Nat.testBit_or, Bool.or_eq_true, ih, testBit_two, decide_eq_true_eq]
    constructor
    · rintro (⟨i, h1, h2⟩ | h)
      · exact ⟨i, by omega, h2⟩
      · exact ⟨k, by omega, h⟩
    · rintro ⟨i, h1, h2⟩
      by_cases e : i = k
      · subst e; exact .inr h2
      · exact .inl ⟨i, by omega, h2⟩
theorem setTo_lt {es : List Int} {m : Nat} : ∀ k, (∀ i, i < k → (nth es i).toNat < m) → setTo es k < 2 ^ m
  | 0, _ => by simp only [setTo]; exact Nat.two_pow_pos m
  | k+1, h => or_lt (setTo_lt k (fun i hi => h i (by omega))) (two_lt (h k (by omega)))
theorem card_setTo_le {es : List Int} {m : Nat} : ∀ k, card (setTo es k) m ≤ k
  | 0 => by
    have : ∀ m, card 0 m = 0 := by
      intro m
      induction m with
      | zero => rfl
      | succ m ih => simp [card, ih]
    simp [setTo, this]
  | k+1 => by
    have ih := card_setTo_le (es := es) (m := m) k
    simp only [setTo, card_or]
    split <;> omega
/-- is the number at k an element that was not there before? -/
def okN (n : Int) (es : List Int) (k : Nat) : Bool := elemB (nth es k) n && !(setTo es k).testBit (nth es k).toNat
/-- has a list each element once? -/
def permB (n : Int) (es : List Int) : Bool := decide ((es.length : Int) = n) && (List.range es.length).all (okN n es)
theorem permB_iff {n : Int} {es : List Int} : permB n es = true ↔ (es.length : Int) = n ∧ ∀ k, k < es.length → okN n es k = true := by simp [permB]
theorem permB_no {n : Int} {es : List Int} {k : Nat} (hk : k < es.length) (h : okN n es k = false) : permB n es = false := by
  rw [← Bool.not_eq_true, permB_iff]
  rintro ⟨_, h2⟩
  rw [h2 k hk] at h
  cases h
theorem okN_elem {n : Int} {es : List Int} {k : Nat} (h : okN n es k = true) : 0 ≤ nth es k ∧ nth es k < n := by
  simp only [okN, Bool.and_eq_true] at h
  exact elemB_iff.1 h.1
theorem okN_new {n : Int} {es : List Int} {k : Nat} (h : okN n es k = true) : (setTo es k).testBit (nth es k).toNat = false := by
  simp only [okN, Bool.and_eq_true, Bool.not_eq_true'] at h
  exact h.2
theorem card_perm {n : Int} {es : List Int} (h : ∀ k, k < es.length → okN n es k = true) : ∀ k, k ≤ es.length → card (setTo es k) n.toNat = k
  | 0, _ => by
    have := card_setTo_le (es := es) (m := n.toNat) 0
    omega
  | k+1, hk => by
    have ih := card_perm h k (by omega)
    have h1 := h k (by omega)
    have h2 := okN_elem h1
    have h3 := okN_new h1
    simp only [setTo, card_or, ih]
    rw [if_pos ⟨by omega, h3⟩]
/-- in a list that has each element once, each element stands somewhere -/
theorem perm_onto {n : Int} {es : List Int} (h : permB n es = true) {x : Nat} (hx : x < es.length) : ∃ i, i < es.length ∧ nth es i = (x : Int) := by
  rw [permB_iff] at h
  have hc := card_perm h.2 es.length (Nat.le_refl _)
  have hb := card_full n.toNat (by rw [hc]; omega) x (by omega)
  obtain ⟨i, hi, e⟩ := (setTo_bit es x es.length).1 hb
  have := okN_elem (h.2 i hi)
  exact ⟨i, hi, by omega⟩
theorem perm_inj {n : Int} {es : List Int} (h : permB n es = true) {i j : Nat} (hi : i < es.length) (hj : j < es.length) (e : nth es i = nth es j) : i = j := by
  rw [permB_iff] at h
  rcases Nat.lt_trichotomy i j with h1 | h1 | h1
  · have := okN_new (h.2 j hj)
    rw [(setTo_bit es _ j).2 ⟨i, h1, by rw [e]⟩] at this
    cases this
  · exact h1
  · have := okN_new (h.2 i hi)
    rw [(setTo_bit es _ i).2 ⟨j, h1, by rw [e]⟩] at this
    cases this
theorem full_bits (n i : Nat) : (2 ^ n - 1).testBit i = decide (i < n) := Nat.testBit_two_pow_sub_one n i
theorem names_eq {n : Int} {es : List Int} (h0 : 0 ≤ n) : permB n es = (decide ((es.length : Int) = n) && allB es 0 (n - 1) && decide (setTo es es.length = 2 ^ n.toNat - 1)) := by
  rw [Bool.eq_iff_iff]
  constructor
  · intro h
    have h' := permB_iff.1 h
    have hall : allB es 0 (n - 1) = true := by
      simp only [allB, List.all_eq_true]
      intro x hx
      obtain ⟨k, hk, rfl⟩ := mem_nth hx
      have := okN_elem (h'.2 k hk)
      rw [inB_iff]; omega
    have hset : setTo es es.length = 2 ^ n.toNat - 1 := by
      apply Nat.eq_of_testBit_eq
      intro i
      rw [full_bits, Bool.eq_iff_iff, setTo_bit, decide_eq_true_eq]
      constructor
      · rintro ⟨k, hk, rfl⟩
        have := okN_elem (h'.2 k hk)
        omega
      · intro hi
        obtain ⟨k, hk, e⟩ := perm_onto h (x := i) (by omega)
        exact ⟨k, hk, by rw [e]; rfl⟩
    simp [h'.1, hall, hset]
  · intro h
    simp only [Bool.and_eq_true, decide_eq_true_eq] at h
    obtain ⟨⟨h1, h2⟩, h3⟩ := h
    rw [permB_iff]
    refine ⟨h1, fun k hk => ?_⟩
    have hel : ∀ k, k < es.length → 0 ≤ nth es k ∧ nth es k < n := fun k hk => by have := allB_nth h2 hk; omega
    have hk1 := hel k hk
    simp only [okN, Bool.and_eq_true, Bool.not_eq_true']
    refine ⟨elemB_iff.2 hk1, ?_⟩
    -- were it there before, too few would be there in the end
    rw [← Bool.not_eq_true]
    intro hb
    have hle : ∀ m, m ≤ es.length → k < m → card (setTo es m) n.toNat ≤ m - 1 := by
      intro m
      induction m with
      | zero => intro _ hkm; omega
      | succ m ih =>
        intro hm hkm
        simp only [setTo, card_or]
        by_cases e : k = m
        · subst e
          rw [if_neg (by rintro ⟨_, h5⟩; rw [hb] at h5; cases h5)]
          have := card_setTo_le (es := es) (m := n.toNat) k
          omega
        · have := ih (by omega) (by omega)
          split <;> omega
    have h5 := hle es.length (Nat.le_refl _) hk
    rw [h3, card_all n.toNat (fun i hi => by rw [full_bits]; simpa using hi)] at h5
    omega

theorem ord_rel {n : Int} {xs : List Int} (h : ordB n xs = true) : RelP n xs := relB_p (ordB_iff.1 h).1

theorem card_mono {s t : Nat} : ∀ n, (∀ i, i < n → s.testBit i = true → t.testBit i = true) → card s n ≤ card t n
  | 0, _ => Nat.le_refl _
  | n+1, h => by
    have ih := card_mono n (fun i hi => h i (by omega))
    have h1 := h n (by omega)
    simp only [card]
    cases hs : s.testBit n
    · simp; split <;> omega
    · rw [h1 hs]; simp; omega
theorem card_lt {s t : Nat} : ∀ n, (∀ i, i < n → s.testBit i = true → t.testBit i = true) → (∃ i, i < n ∧ s.testBit i = false ∧ t.testBit i = true) → card s n < card t n
  | 0, _, ⟨i, hi, _⟩ => by omega
  | n+1, h, ⟨i, hi, h1, h2⟩ => by
    simp only [card]
    by_cases e : i = n
    · subst e
      have := card_mono i (fun j hj => h j (by omega))
      rw [h1, h2]; simp; omega
    · have ih := card_lt n (fun j hj => h j (by omega)) ⟨i, by omega, h1, h2⟩
      have h3 := h n (by omega)
      cases hs : s.testBit n
      · simp; split <;> omega
      · rw [h3 hs]; simp; omega
/-- may the element come next, when those of a set have come? -/
def firstOk (xs : List Int) (S i : Nat) : Bool := !S.testBit i && decide (sub (belowTo xs (i : Int) xs.length) S = 0)
theorem firstOk_iff {xs : List Int} {S i : Nat} : firstOk xs S i = true ↔ S.testBit i = false ∧ sub (belowTo xs (i : Int) xs.length) S = 0 := by simp [firstOk]
theorem below_sub {n : Int} {xs : List Int} (h : ordB n xs = true) {i j : Nat} (hj : j < xs.length) (hji : hasB (nth xs j) i = true) :
    card (belowTo xs (j : Int) xs.length) xs.length < card (belowTo xs (i : Int) xs.length) xs.length := by
  have ho := (ordB_iff.1 h).2
  refine card_lt _ (fun m hm hb => ?_) ⟨j, hj, ?_, ?_⟩
  · rw [belowTo_bit] at hb ⊢
    simp only [hm, decide_true, Bool.true_and] at hb ⊢
    have h1 := (okAtB_iff.1 (ho m hm)).2 j hj hb
    exact sub_zero.1 h1 _ hji
  · rw [belowTo_bit]
    simp only [hj, decide_true, Bool.true_and]
    exact (okAtB_iff.1 (ho j hj)).1
  · rw [belowTo_bit]
    simp only [hj, decide_true, Bool.true_and]
    exact hji
theorem first_some {n : Int} {xs : List Int} (h : ordB n xs = true) (S : Nat) : ∀ c i, i < xs.length → S.testBit i = false → card (belowTo xs (i : Int) xs.length) xs.length < c → ∃ m, m < xs.length ∧ firstOk xs S m = true
  | 0, _, _, _, hc => by omega
  | c+1, i, hi, hS, hc => by
    by_cases hz : sub (belowTo xs (i : Int) xs.length) S = 0
    · exact ⟨i, hi, firstOk_iff.2 ⟨hS, hz⟩⟩
    · rw [sub_zero] at hz
      simp only [Classical.not_forall] at hz
      obtain ⟨j, hb, hn⟩ := hz
      rw [belowTo_bit] at hb
      simp only [Bool.and_eq_true, decide_eq_true_eq] at hb
      have := below_sub h hb.1 hb.2
      exact first_some h S c j hb.1 (by simpa using hn) (by omega)
theorem first_ex {n : Int} {xs : List Int} (h : ordB n xs = true) {S : Nat} (hc : card S xs.length < xs.length) : ∃ m, m < xs.length ∧ firstOk xs S m = true := by
  by_cases hz : ∀ i, i < xs.length → S.testBit i = true
  · rw [card_all _ hz] at hc; omega
  · simp only [Classical.not_forall] at hz
    obtain ⟨i, hi, hn⟩ := hz
    exact first_some h S _ i hi (by simpa using hn) (Nat.lt_succ_self _)
/-- the first element that may come next -/
def nxt (xs : List Int) (S : Nat) : Nat := ((List.range xs.length).find? (firstOk xs S)).getD 0
theorem nxt_eq {xs : List Int} {S m : Nat} (hm : m < xs.length) (h : firstOk xs S m = true) (hb : ∀ j, j < m → firstOk xs S j = false) : nxt xs S = m := by
  have : (List.range xs.length).find? (firstOk xs S) = some m := by
    rw [List.find?_range_eq_some]
    exact ⟨h, by simpa using hm, fun j hj => by simp [hb j hj]⟩
  rw [nxt, this]; rfl
theorem nxt_ok {xs : List Int} {S : Nat} (h : ∃ m, m < xs.length ∧ firstOk xs S m = true) : nxt xs S < xs.length ∧ firstOk xs S (nxt xs S) = true ∧ ∀ j, j < nxt xs S → firstOk xs S j = false := by
  obtain ⟨m, hm, h1⟩ := h
  cases hf : (List.range xs.length).find? (firstOk xs S) with
  | none =>
    rw [List.find?_eq_none] at hf
    exact absurd h1 (hf m (by simpa using hm))
  | some x =>
    have hx := List.find?_range_eq_some.1 hf
    have e : nxt xs S = x := by rw [nxt, hf]; rfl
    rw [e]
    exact ⟨by simpa using hx.2.1, hx.1, fun j hj => by simpa using hx.2.2 j hj⟩
/-- the first k elements of the first extension, and the set of them -/
def firsts (xs : List Int) : Nat → List Int
  | 0 => []
  | k+1 => firsts xs k ++ [((nxt xs (setTo (firsts xs k) k) : Nat) : Int)]
theorem firsts_len (xs : List Int) : ∀ k, (firsts xs k).length = k
  | 0 => rfl
  | k+1 => by simp [firsts, firsts_len xs k]
theorem setTo_app {es : List Int} {x : Int} : ∀ k, k ≤ es.length → setTo (es ++ [x]) k = setTo es k
  | 0, _ => rfl
  | k+1, h => by
    simp only [setTo, setTo_app (es := es) (x := x) k (by omega)]
    have : nth (es ++ [x]) k = nth es k := by simp [nth, List.getD_eq_getElem?_getD, List.getElem?_append_left (show k < es.length by omega)]
    rw [this]
/-- the set of the first k elements of the first extension -/
def fset (xs : List Int) (k : Nat) : Nat := setTo (firsts xs k) k
theorem fset_next (xs : List Int) (k : Nat) : fset xs (k+1) = fset xs k ||| 2 ^ nxt xs (fset xs k) := by
  have hl := firsts_len xs k
  simp only [fset, setTo, firsts]
  rw [setTo_app k (by omega)]
  have : nth (firsts xs k ++ [((nxt xs (setTo (firsts xs k) k) : Nat) : Int)]) k = ((nxt xs (setTo (firsts xs k) k) : Nat) : Int) := by
    simp [nth, List.getD_eq_getElem?_getD, List.getElem?_append_right (show (firsts xs k).length ≤ k by omega), hl]
  rw [this]; rfl
theorem fset_card {n : Int} {xs : List Int} (h : ordB n xs = true) : ∀ k, k ≤ xs.length → card (fset xs k) xs.length = k ∧ fset xs k < 2 ^ xs.length
  | 0, _ => by
    have := card_setTo_le (es := firsts xs 0) (m := xs.length) 0
    exact ⟨by simp only [fset]; omega, Nat.two_pow_pos _⟩
  | k+1, hk => by
    have ih := fset_card h k (by omega)
    have h1 := nxt_ok (first_ex h (S := fset xs k) (by omega))
    have h2 := (firstOk_iff.1 h1.2.1).1
    rw [fset_next]
    exact ⟨by rw [card_or, ih.1, if_pos ⟨h1.1, h2⟩], or_lt ih.2 (two_lt h1.1)⟩
def fstL (n : Int) (xs : List Int) : List Int := if ordB n xs then firsts xs xs.length else []
theorem fstL_len (n : Int) (xs : List Int) : (fstL n xs).length ≤ 1048576 := by
  unfold fstL
  split
  · rename_i h
    have hp := ord_rel h
    rw [firsts_len]
    have := hp.len; have := hp.n1; omega
  · simp

/-- the numbers below three -/
theorem orUpTo3_any (w : World) :
    Calls Try.prog 138 #[.int .i64 3] w fun e w' => ∃ (a : Option Addr) (cap : Nat), e = .returned (.slice a 3 cap) ∧ OwnI w' w.heap.size (.slice a 3 cap) [0, 1, 2] ∧ Below w.heap.size w w' := by
  go_enter Try.func138, Try.ntmps138
  go_wp2_with fail
  go_loopw [3, 4] (fun v i wr => ∃ (k : Nat) (a : Option Addr) (cap : Nat), k ≤ 3 ∧ i = .int .i64 k ∧ v = .slice a k cap ∧ OwnI wr w.heap.size (.slice a k cap) (fmap (fun j => (j : Int)) k) ∧ Below w.heap.size w wr) (fun _ i _ => 3 - (intOf i).toNat)
  case atStart => exact ⟨0, none, 0, Nat.zero_le _, rfl, rfl, OwnI.nil _ _, Below.refl _ _⟩
  case round =>
    obtain ⟨k, a, cap, hk, rfl, rfl, ho, hb⟩ := hrel
    have hl := fmap_len (fun j => (j : Int)) k
    have HU : Hid (fmap (fun j => (j : Int)) (k+1) = fmap (fun j => (j : Int)) k ++ [(k : Int)]) := fmap_succ _ _
    have HL := Lib.hid (fmap_len (fun j => (j : Int)) (k+1))
    by_cases hlt : k < 3
    · have k1 : (k : Int) < 3 := by omega
      have hs := hb.size
      generalize fmap (fun j => (j : Int)) k = xs at ho hl HU
      go_wp2_with (at_builtin; refine push_at (v := .slice a k cap) (ys := xs) (z := (k : Int)) rfl _ _ rfl rfl ho rfl (by omega) hs ?_; intro v7 w7 o7 hg7 hat7; revert hat7)
      intro hat7
      rw [← HU.out] at o7
      obtain ⟨av7, cv7, ev7⟩ := o7.form
      rw [HL.out] at ev7
      subst ev7
      have hb7 := hb.trans (below_of_grown hg7 (fun c e => (ho.lt c e).1) hs)
      clear hat7 hg7
      go_wp2_with fail
      go_roundw
      case rel => exact ⟨k + 1, av7, cv7, by omega, by go_num, rfl, o7, hb7⟩
      case measure => simp [intOf]; omega
    · obtain rfl : k = 3 := by omega
      go_wp2_with fail
      go_ret
      exact ⟨a, cap, rfl, ho, hb⟩

theorem l1In_any (n lo hi : Int) (w : World) :
    Calls Try.prog 136 #[.int .i64 n, .int .i64 lo, .int .i64 hi] w fun e w' => e = .returned (.bool (inB n lo hi)) ∧ w = w' := by
  go_enter Try.func136, Try.ntmps136
  go_wp2
  all_goals (go_ret; exact ⟨ret_bool (by simp [inB]; try omega), rfl⟩)
theorem l1In_is {n lo hi : Int} {b : Bool} (h : inB n lo hi = b) (w : World) (m : Nat) :
    Calls Try.prog 136 #[.int .i64 n, .int .i64 lo, .int .i64 hi] (w.drewN m) fun e w' => e = .returned (.bool b) ∧ ∃ k, w' = w.drewN k :=
  Calls.quiet_of_same ((l1In_any n lo hi (w.drewN m)).mono (fun e w' hh => ⟨by rw [← h]; exact hh.1, hh.2.symm⟩))

theorem asGood_any (a : Option Addr) (xs : List Int) (cap : Nat) (w : World) (hx : Rd w a xs) (hcap : xs.length ≤ cap) :
    Calls Try.prog 111 #[.slice a xs.length cap] w fun e w' => e = .returned (.bool (ascB xs)) ∧ Below w.heap.size w w' := by
  have hlen := hx.len
  by_cases hl : xs.length ≤ 12
  · go_enter Try.func111, Try.ntmps111
    go_wp2_with fail
    go_loopw [10] (fun i wr => ∃ k : Nat, k ≤ xs.length ∧ i = .int .i64 k ∧ (∀ j, j < k → ascOk xs j = true) ∧ Below w.heap.size w wr) (fun i _ => xs.length - (intOf i).toNat)
    case atStart => exact ⟨0, Nat.zero_le _, rfl, fun j hj => by omega, Below.refl _ _⟩
    case round =>
      obtain ⟨k, hk, rfl, hall, hb⟩ := hrel
      have HA := Lib.hid hall
      clear hall
      by_cases hlt : k < xs.length
      · have hxr := hx.below hb
        obtain ⟨b, off, rfl, hbl, hc⟩ := hxr.cell k hlt
        have k1 : (k : Int) ≤ (cap : Int) := by omega
        have k0 : (0 : Int) ≤ (k : Int) := by omega
        cases hin : ascOk xs k
        · have HO : Hid (ascB xs = false) := ascB_no hlt hin
          have hin' : inB (nth xs k) 0 (bndTo xs k) = false := hin
          have HI := Lib.hid hin'
          clear hin hin'
          go_wp2_with fail
          refine (asBound_any _ xs k _ _ hxr hk).mono ?_
          rintro e w1 ⟨rfl, hb1⟩
          go_wp2_with fail
          refine (l1In_any _ _ _ _).mono ?_
          rintro e w' ⟨rfl, rfl⟩
          rw [HI.out]
          go_wp2_with fail
          go_ret
          exact ⟨ret_bool HO.out.symm, hb.trans (hb1.mono hb.size)⟩
        · have hin' : inB (nth xs k) 0 (bndTo xs k) = true := hin
          have HI := Lib.hid hin'
          have HM := Lib.hid hin
          clear hin hin'
          go_wp2_with fail
          refine (asBound_any _ xs k _ _ hxr hk).mono ?_
          rintro e w1 ⟨rfl, hb1⟩
          go_wp2_with fail
          refine (l1In_any _ _ _ _).mono ?_
          rintro e w' ⟨rfl, rfl⟩
          rw [HI.out]
          go_wp2_with fail
          go_roundw
          case rel =>
            refine ⟨k + 1, by omega, by go_num, fun j hj => ?_, hb.trans (hb1.mono hb.size)⟩
            by_cases e : j = k
            · rw [e]; exact HM.out
            · exact HA.out j (by omega)
          case measure => simp [intOf]; omega
      · obtain rfl : k = xs.length := by omega
        have HO : Hid (ascB xs = true) := ascB_iff.2 ⟨hl, HA.out⟩
        go_wp2_with fail
        go_ret
        exact ⟨ret_bool HO.out.symm, hb⟩
  · have HO := Lib.hid (ascB_long hl)
    go_enter Try.func111, Try.ntmps111
    go_wp2_with fail
    go_ret
    exact ⟨ret_bool HO.out.symm, Below.refl _ _⟩

/-- a row of m integers of which the first k are filled, f 0 .. -/
def rowF (f : Nat → Int) (m k : Nat) : List Int := fmap f k ++ List.replicate (m - k) 0
theorem rowF_len (f : Nat → Int) {m k : Nat} (h : k ≤ m) : (rowF f m k).length = m := by simp [rowF, fmap_len]; omega
theorem rowF_set (f : Nat → Int) {m k : Nat} (h : k < m) : (rowF f m k).set k (f k) = rowF f m (k+1) := by
  apply List.ext_getElem?
  intro j
  rw [List.getElem?_set]
  by_cases hj : k = j
  · subst hj
    rw [if_pos rfl, if_pos (by rw [rowF_len f (by omega)]; exact h), rowF, List.getElem?_append_left (by rw [fmap_len]; omega)]
    simp [fmap]
  · simp only [hj, if_false, rowF, List.getElem?_append, fmap_len, List.getElem?_replicate]
    by_cases h1 : j < k
    · have h2 : j < k + 1 := by omega
      simp [h1, h2, fmap]
    · have h2 : ¬ j < k + 1 := by omega
      have h3 : j - k < m - k ↔ j - (k+1) < m - (k+1) := by omega
      simp [h1, h2, h3]
theorem rowF_zero (f : Nat → Int) {m k : Nat} (h : k < m) : (rowF f m k).set k 0 = rowF f m k := by
  apply List.ext_getElem?
  intro j
  rw [List.getElem?_set]
  by_cases hj : k = j
  · subst hj
    rw [if_pos rfl, if_pos (by rw [rowF_len f (by omega)]; exact h), rowF, List.getElem?_append_right (by rw [fmap_len]; omega)]
    rw [fmap_len, Nat.sub_self, List.getElem?_replicate, if_pos (by omega)]
  · simp [hj]
theorem rowF_end (f : Nat → Int) (m : Nat) : rowF f m m = fmap f m := by simp [rowF]
theorem made_row {w1 : World} {B : Nat} {v : Value} {m : Nat} (f : Nat → Int) (h : w1.ownsRow B 3 1 v m (madeCells (Value.int .i64 0).cells (m * 1)).toList) : OwnI w1 B v (rowF f m 0) := by
  unfold OwnI
  rw [rowF_len f (Nat.zero_le _)]
  simpa [Value.cells, toList_madeCells_one, fmap, rowF] using h

/-- one row more at the end -/
theorem RowsP.snoc {w w' : World} {B C : Nat} {v v' u : Value} {vl : List Value} {xss : List (List Int)} {r : List Int} (h : RowsP w B v vl xss) (hr : OwnI w C u r) (hBC : B ≤ C) (hvC : ∀ c, v.ownBlock = some c → c < C) (hrC : ∀ k, k < xss.length → ∀ c, (valAt vl k).ownBlock = some c → c < C)
    (ho : w'.ownsRow B 24 1 v' (xss.length + 1) (vl ++ [u])) (hg : w.grownBy w' v.ownBlock) (hv' : v'.ownBlock = v.ownBlock ∨ ∃ m, w.heap.size ≤ m ∧ v'.ownBlock = some m) : RowsP w' B v' (vl ++ [u]) (xss ++ [r]) := by
  have hl := h.o.vlen
  have e1 : ∀ k, k < xss.length → valAt (vl ++ [u]) k = valAt vl k := fun k hk => by rw [valAt, valAt, List.getD_eq_getElem?_getD, List.getD_eq_getElem?_getD, List.getElem?_append_left (by omega)]
  have e2 : valAt (vl ++ [u]) xss.length = u := by rw [← hl]; simp [valAt]
  have r1 : ∀ k, k < xss.length → rowL (xss ++ [r]) k = rowL xss k := fun k hk => by rw [rowL, rowL, List.getD_eq_getElem?_getD, List.getD_eq_getElem?_getD, List.getElem?_append_left hk]
  have r2 : rowL (xss ++ [r]) xss.length = r := by simp [rowL]
  have hur := hr.lt
  refine ⟨⟨by rw [List.length_append, List.length_singleton]; exact ho, fun k hk => ?_, fun k hk c hc hc2 => ?_⟩, fun j k hjk hk c hc => ?_⟩
  · rw [List.length_append, List.length_singleton] at hk
    by_cases e : k = xss.length
    · subst e
      rw [e2, r2]
      exact (hr.mono hBC).kept hg (own_ne (fun c h1 h3 => by have := hvC c h3; have := (hur c h1).1; omega))
    · rw [e1 k (by omega), r1 k (by omega)]
      exact (h.o.row k (by omega)).kept hg (own_ne (fun c h1 h3 => h.o.apart k (by omega) c h1 h3))
  · rw [List.length_append, List.length_singleton] at hk
    by_cases e : k = xss.length
    · subst e
      rw [e2] at hc
      have h1 := hur c hc
      rcases hv' with h3 | ⟨m, hm, h3⟩
      · rw [h3] at hc2; have := hvC c hc2; omega
      · rw [h3] at hc2; simp only [Option.some.injEq] at hc2; omega
    · rw [e1 k (by omega)] at hc
      have h1 := ((h.o.row k (by omega)).lt c hc).2
      rcases hv' with h3 | ⟨m, hm, h3⟩
      · rw [h3] at hc2; exact h.o.apart k (by omega) c hc hc2
      · rw [h3] at hc2; simp only [Option.some.injEq] at hc2; omega
  · rw [List.length_append, List.length_singleton] at hk
    rw [e1 j (by omega)] at hc
    by_cases e : k = xss.length
    · subst e
      rw [e2]
      intro h3
      have := hrC j (by omega) c hc
      have := (hur c h3).1
      omega
    · rw [e1 k (by omega)]
      exact h.pair j k hjk (by omega) c hc
/-- an append of one row at a step of a region that draws its order; the new row's value lies somewhere -/
theorem step_push_row {ops : Array Oper} {o : Oper} {a : Act} {K : Act → World → Prop} {Q : Exit → Act → World → Prop} {E : Prop} (hgd : o.guard = none) (s x : Operand)
    (ho : o.op = .call { callee := .builtin .append, args := #[s, x], argTypes := #[60, 60] }) {W : World} {B C g n m cp : Nat} {ar : Option Addr} {v : Value} {vl : List Value} {xss : List (List Int)} {r : List Int}
    (hs : a.eval s = v) (hx : a.eval x = .slice (some ⟨g, 0, none⟩) 1 1) (hro : RowsP W B v vl xss) (hn : xss.length = n) (hrow : OwnI W C (.slice ar m cp) r) (hz : W.cell? ⟨g, 0, none⟩ = some (.slice ar m cp)) (h63 : n ≤ 1048576) (hBC : B ≤ C) (hC : C ≤ W.heap.size)
    (hvC : ∀ c, v.ownBlock = some c → c < C) (hrC : ∀ k, k < xss.length → ∀ c, (valAt vl k).ownBlock = some c → c < C)
    (h : ∀ g' cap w', RowsP w' B (.slice (some ⟨g', 0, none⟩) (n + 1) cap) (vl ++ [.slice ar m cp]) (xss ++ [r]) → W.grownBy w' v.ownBlock → K (a.put o.dst (.slice (some ⟨g', 0, none⟩) (n + 1) cap)) w') :
    if Region.wanted o (yielded ops a.tmps) = true then Oper.wp Try.prog o a W K Q else E := by
  subst hn
  obtain ⟨j0, hj0, hy0, hy1, hy2⟩ := info_parts infoSlice
  refine step_append_lies W hgd s x 60 ho B 24 j0 (.slice none 0 0) 1 24 Try.underlying60 hj0 hy0 hy1 hy2 rfl (by decide) v xss.length vl hs hro.o.own ⟨g, 0, none⟩ 1 1 [.slice ar m cp] hx rfl ?_ (by intro u hu; simp at hu; subst hu; rfl) (by omega) (by unfold maxLen; omega) (by omega) (by omega) W.heap.size rfl ?_
  · intro j u hj
    obtain ⟨hlt, e⟩ := List.getElem?_eq_some_iff.1 hj
    have h0 : j = 0 := by simpa using hlt
    subst h0
    simp at e
    subst e
    rw [Addr.add_lit]; simpa using hz
  · intro g' cap w' ho2 hg hat _
    refine h g' cap w' (hro.snoc hrow hBC hvC hrC ho2 hg ?_) hg
    rcases hat with h1 | h1
    · exact .inl (by rw [h1]; rfl)
    · exact .inr ⟨g', by omega, rfl⟩

theorem wpList_append_none {P : Program} {w : World} {ops : Array Oper} {rest : List Oper} {o : Oper} {a : Act} {Q : Exit → Act → World → Prop} (hgd : o.guard = none) (s x : Operand) (t : TypeId)
    (ho : o.op = .call { callee := .builtin .append, args := #[s, x], argTypes := #[t, t] })
    (base : Nat) (e : TypeId) (i : TypeInfo) (size : Nat) (ht : P.underlying t = some (.slice e)) (hi : P.info? e = some i)
    (v : Value) (n c : Nat) (xs : List Value) (hs : a.eval s = v) (hown : w.ownsRow base e size v n xs) (hx : a.eval x = .slice none 0 c)
    (h : wpList P ops Q rest (a.put o.dst v) w) : wpList P ops Q (o :: rest) a w := by
  refine wpList_plain hgd fun K hK => ?_
  have hrun : (Builtin.append_ #[t, t] o.type #[v, .slice none 0 c]).run P w = .ok v w := by
    rcases hown.2 with ⟨rfl, rfl⟩ | ⟨g, cap, cur, rfl, _, _, hnc, _⟩
    · simp [Builtin.append_, run_underlying ht, sizeOf, typeInfo, hi, Builtin.lenOf, Builtin.firstCells]
    · simp [Builtin.append_, run_underlying ht, sizeOf, typeInfo, hi, Builtin.lenOf, Builtin.firstCells, hnc, storeCells]
  unfold Oper.wp
  simp [execOp, ho, resolve, invoke, builtin, hs, hx, hrun, Result.andThen]
  exact hK _ _ h
theorem rd_news {w : World} {ad : Addr} {xs : List Int} (hx : Rd w (some ad) xs) : ∀ j u, (xs.map (Value.int .i64))[j]? = some u → w.cell? (ad.add j) = some u := by
  intro j u hj
  rw [List.getElem?_map, Option.map_eq_some_iff] at hj
  obtain ⟨x, hx1, rfl⟩ := hj
  obtain ⟨hlt, e⟩ := List.getElem?_eq_some_iff.1 hx1
  obtain ⟨b, off, e1, _, hc⟩ := hx.cell j hlt
  simp only [Option.some.injEq] at e1
  subst e1
  rw [Addr.add_lit, hc, nth_get xs j hlt, e]
theorem ints_one (xs : List Int) : ∀ u ∈ xs.map (Value.int .i64), u.oneCell' = true := by
  intro u hu
  obtain ⟨x, _, rfl⟩ := List.mem_map.1 hu
  rfl

theorem l1Own_any (a : Option Addr) (xs : List Int) (cap : Nat) (w : World) (hx : Rd w a xs) (hn : xs.length ≤ 1048576) :
    Calls Try.prog 146 #[.slice a xs.length cap] w fun e w' => ∃ a' cap', e = .returned (.slice a' xs.length cap') ∧ OwnI w' w.heap.size (.slice a' xs.length cap') xs ∧ Below w.heap.size w w' := by
  obtain ⟨i0, hi, hz0, hz1, hz2⟩ := info_parts infoInt
  have hown : (w.alloc (.cells #[] 3)).ownsRow w.heap.size 3 1 (.slice (some ⟨w.heap.size, 0, none⟩) 0 0) 0 [] := World.ownsRow_lit w #[] 0 (Nat.le_refl _) (by simp [maxLen]) (by simp)
  cases a with
  | none =>
    have h0 : xs = [] := by
      rcases xs with _ | ⟨x, t⟩
      · rfl
      · obtain ⟨b, off, e, _⟩ := hx.cell 0 (by simp)
        cases e
    subst h0
    go_enter Try.func146, Try.ntmps146
    go_wp2_with (at_builtin; refine wpList_append_none rfl _ _ 24 rfl w.heap.size 3 i0 1 Try.underlying24 hi _ 0 _ [] rfl hown rfl ?_)
    go_wp2_with fail
    go_ret
    exact ⟨_, _, rfl, hown, (by repeat (first | exact Below.refl _ _ | assumption | refine Below.alloc ?_ (by first | exact Nat.le_refl _ | (simp only [World.size_alloc, World.size_setCell, World.size_drew]; omega) | omega) _ | refine Below.setCell ?_ (by first | exact Nat.le_refl _ | (simp only [World.size_alloc, World.size_setCell, World.size_drew]; omega) | omega) _ | refine Below.drew ?_))⟩
  | some ad =>
    have hx1 := hx.alloc (.cells #[] 3)
    go_enter Try.func146, Try.ntmps146
    go_wp2_with (at_builtin; refine wpList_append_own _ rfl _ _ 24 rfl w.heap.size 3 i0 (.int .i64 0) 1 8 Try.underlying24 hi hz0 hz1 hz2 rfl (by decide) _ 0 [] rfl hown ad xs.length cap (xs.map (Value.int .i64)) rfl (by simp) ?c1 ?c2 ?c3 ?c4 ?c5 ?_)
    case c1 => exact rd_news hx1
    case c2 => exact ints_one xs
    case c3 => unfold maxLen; omega
    case c4 => omega
    case c5 => simp
    · intro v' w1 hown' hgrow _
      try simp only [Nat.zero_add, List.nil_append] at hown'
      have hb : Below w.heap.size w w1 := ((Below.refl _ _).alloc (Nat.le_refl _) _).grown hgrow (by simp) (fun b e => by simp [Value.ownBlock] at e; omega)
      obtain ⟨a', cap', rfl⟩ := OwnI.form (xs := xs) hown'
      have HO := Lib.hid hown'
      clear hown' hgrow hown
      go_wp2_with fail
      go_ret
      exact ⟨a', cap', rfl, HO.out, hb⟩

set_option maxRecDepth 100000 in
set_option maxHeartbeats 1000000 in
theorem maOwn_any (a : Option Addr) (xss : List (List Int)) (cap n m : Nat) (f : Nat → Nat → Int) (hf : xss = sqM f n m) (w : World) (hx : RdS w a xss) (hn : n ≤ 13) (hm : m ≤ 13) :
    Calls Try.prog 197 #[.agg #[.slice a n cap]] w fun e w' => ∃ a0 c0 vl, e = .returned (.agg #[.slice a0 n c0]) ∧ RowsP w' w.heap.size (.slice a0 n c0) vl (sqM f n m) ∧ Below w.heap.size w w' := by
  subst hf
  have hV0 := Var1.new (w.alloc (.cells #[.slice a n cap] 62)) (.slice none 0 0) 62
  have hO := Var1.new ((w.alloc (.cells #[.slice a n cap] 62)).alloc (.cells #[.slice none 0 0] 62)) (.slice none 0 0) 62
  have hb0 : Below w.heap.size w (((w.alloc (.cells #[.slice a n cap] 62)).alloc (.cells #[.slice none 0 0] 62)).alloc (.cells #[.slice none 0 0] 62)) := (by repeat (first | exact Below.refl _ _ | assumption | refine Below.alloc ?_ (by first | exact Nat.le_refl _ | (simp only [World.size_alloc, World.size_setCell, World.size_drew]; omega) | omega) _ | refine Below.setCell ?_ (by first | exact Nat.le_refl _ | (simp only [World.size_alloc, World.size_setCell, World.size_drew]; omega) | omega) _ | refine Below.drew ?_))
  have hV := hV0.alloc (.cells #[.slice none 0 0] 62)
  clear hV0
  simp only [World.size_alloc] at hV hO
  have HX := Lib.hid hx
  clear hx
  go_enter Try.func197, Try.ntmps197
  go_wp2_with fail
  go_loopw [10] (fun i wr => ∃ (k : Nat) (v : Value) (vl : List Value), k ≤ n ∧ i = .int .i64 k ∧ Var1 wr (w.heap.size + 2) v ∧ RowsP wr (w.heap.size + 3) v vl (sqM f k m) ∧ Var1 wr (w.heap.size + 1) (.slice none 0 0) ∧ Below w.heap.size w wr) (fun i _ => n - (intOf i).toNat)
  case atStart => exact ⟨0, .slice none 0 0, [], Nat.zero_le _, rfl, hO, RowsP.nil _ _, hV, hb0⟩
  case round =>
    clear hV hO hb0
    obtain ⟨k, v, vl, hk, rfl, hO, hro, hV, hb⟩ := hrel
    have hbs := hb.size
    have ⟨⟨zO, cO⟩, fO⟩ := hO
    obtain ⟨av, cv, ev⟩ := hro.o.form
    rw [sqM_len] at ev
    subst ev
    have HRO := Lib.hid hro
    have HO := Lib.hid hO
    have HV := Lib.hid hV
    by_cases hlt : k < n
    · obtain ⟨b0, off0, a', cap', rfl, hbl, hc, hr⟩ := (HX.out.below hb).row k (by rw [sqM_len]; exact hlt)
      rw [sqM_row hlt, fmap_len] at hc
      rw [sqM_row hlt] at hr
      have k1 : (k : Int) < (n : Int) := by omega
      have HN : Hid (sqM f (k+1) m = sqM f k m ++ [fmap (f k) m]) := sqM_succ _ _ _
      have HC : Hid (∀ W, Below wr.heap.size wr W → Calls Try.prog 146 #[.slice a' m cap'] W fun e w' => ∃ a2 c2, e = .returned (.slice a2 m c2) ∧ OwnI w' W.heap.size (.slice a2 m c2) (fmap (f k) m) ∧ Below W.heap.size W w') := fun W h => by
        have h1 := l1Own_any a' (fmap (f k) m) cap' W (hr.below h) (by rw [fmap_len]; omega)
        rw [fmap_len] at h1
        exact h1
      have hsz : w.heap.size + 3 ≤ wr.heap.size := by omega
      clear hro hO hV hr
      go_wp2_with fail
      go_region_law (first | (have _g := HR2; refine step_push_row (by rfl) _ _ (by rfl) (by rfl) (by rfl) (HR2.out.below ((Below.refl _ _).alloc (Nat.le_refl _) _) (Nat.le_refl _)) (sqM_len _ _ _) (ho2.alloc _) (by simp) (by omega) (by omega) (by simp; omega) (HRO.out.blk.1) (HRO.out.blk.2) ?_; intro g5 c5 w5 ho5 hg5; have hg6 := grown_alloc_set hg5; have hO5 := HO2.out.kept hg6 (ne_own (fun c e => by have := (HR2.out.o.lt c e).1; omega)); have ⟨⟨zO5, cO5⟩, fO5⟩ := hO5) | (go_simp; go_at_call 146; refine (HC.out _ (Joins.below_draws _ _ _)).mono ?_; rintro e w2 ⟨a2, c2, rfl, ho2', hb2⟩; have ht2 := (Joins.below_draws _ _ _).trans hb2; have hs2 := ht2.size; have ho2 := ho2'.mono (B' := wr.heap.size) (by simp); have HR2 := Lib.hid (HRO.out.below ht2 (Nat.le_refl _)); have HO2 := Lib.hid (HO.out.below ht2); have ⟨⟨zO2, cO2⟩, fO2⟩ := HO2.out; clear ho2' hb2))
      all_goals
        have hlo := HR2.out.o.lt
        have hV5 := (HV.out.below ht2).kept hg6 (ne_own (fun c e => by have := (hlo c e).1; omega))
        have b5 : Below w.heap.size w w5 := (hb.trans (ht2.mono hbs)).trans (below_of_grown hg6 (fun c e => by have := (hlo c e).1; omega) (by omega))
        have ho6 := ho5.setBelow (p := ⟨w.heap.size + 2, 0, none⟩) (show w.heap.size + 2 < w.heap.size + 3 by omega) (.slice (some ⟨g5, 0, none⟩) (k + 1) c5)
        have hO6 := hO5.set (.slice (some ⟨g5, 0, none⟩) (k + 1) c5)
        have hV6 := hV5.other (p := ⟨w.heap.size + 2, 0, none⟩) (.slice (some ⟨g5, 0, none⟩) (k + 1) c5) (show w.heap.size + 1 ≠ w.heap.size + 2 by omega)
        have b6 := b5.setCell (p := ⟨w.heap.size + 2, 0, none⟩) (show w.heap.size ≤ w.heap.size + 2 by omega) (.slice (some ⟨g5, 0, none⟩) (k + 1) c5)
        have H6 := Lib.hid (And.intro ho6 (And.intro hO6 (And.intro hV6 b6)))
        clear ho5 hg5 hg6 hlo hO5 hV5 ho6 hO6 hV6 HR2 ho2 HO2
        go_wp2_with fail
        go_roundw
        case rel => exact ⟨k + 1, _, _, by omega, by go_num, H6.out.2.1, by rw [HN.out]; exact H6.out.1, H6.out.2.2.1, H6.out.2.2.2⟩
        case measure => simp [intOf]; omega
    · obtain rfl : k = n := by omega
      have ⟨⟨zV, cV⟩, fV⟩ := hV
      clear hro hO hV
      go_wp2_with fail
      have hV2 := HV.out.set (.slice av k cv)
      have b2 := hb.setCell (p := ⟨w.heap.size + 1, 0, none⟩) (by simp) (.slice av k cv)
      refine bodyPost_ret (v := .agg #[.slice av k cv]) (by have ⟨⟨_, q1⟩, _⟩ := hV2; simp [results, Try.results197, go_sem, q1]) rfl ?_
      exact ⟨av, cv, vl, rfl, (HRO.out.setBelow (show w.heap.size + 1 < w.heap.size + 3 by omega) _).mono (by omega), b2⟩

set_option maxRecDepth 100000 in
theorem maTop_any (a : Option Addr) (xss : List (List Int)) (cap : Nat) (w : World) (hx : RdS w a xss) (hm : mxB xss = true) :
    Calls Try.prog 196 #[.agg #[.slice a xss.length cap]] w fun e w' => e = .returned (.int .i64 (topI xss)) ∧ Below w.heap.size w w' := by
  have HM := Lib.hid hm
  have h12 := mxB_small hm
  have HX := Lib.hid hx
  clear hm
  go_enter Try.func196, Try.ntmps196
  go_wp2_with fail
  go_loop [8] (fun i => ∃ k : Nat, k ≤ xss.length ∧ i = .int .i64 k ∧ Hid (∀ j, j < k → atM xss j (xss.length - 1) = 0)) (fun i => xss.length - (intOf i).toNat)
  case atStart => exact ⟨0, Nat.zero_le _, rfl, fun j hj => by omega⟩
  case round =>
    obtain ⟨k, hk, rfl, HZ⟩ := hrel
    by_cases hlt : k < xss.length
    · obtain ⟨b, off, a', cap', rfl, hbl, hc, hr⟩ := (HX.out.below (show Below w.heap.size w (w.alloc (.cells #[.slice a xss.length cap] 62)) from (by repeat (first | exact Below.refl _ _ | assumption | refine Below.alloc ?_ (by first | exact Nat.le_refl _ | (simp only [World.size_alloc, World.size_setCell, World.size_drew]; omega) | omega) _ | refine Below.setCell ?_ (by first | exact Nat.le_refl _ | (simp only [World.size_alloc, World.size_setCell, World.size_drew]; omega) | omega) _ | refine Below.drew ?_)))).row k hlt
      have hrl := mxB_len HM.out hlt
      obtain ⟨b2, off2, rfl, hbl2, hc2⟩ := hr.cell (xss.length - 1) (by omega)
      rw [hrl] at hc
      have k1 : (k : Int) < (xss.length : Int) := by omega
      have hcast : ((xss.length : Int) - 1) = ((xss.length - 1 : Nat) : Int) := by omega
      have hnn := (mxB_num HM.out (j := xss.length - 1) hlt (by omega)).1
      have HA : Hid (atM xss k (xss.length - 1) = nth (rowL xss k) (xss.length - 1)) := rfl
      rw [HA.out] at hnn
      by_cases hp : 0 < nth (rowL xss k) (xss.length - 1)
      · have H : Hid (topI xss = (k : Int)) := by
          rw [Hid, topI, if_neg (by omega), topN, firstNZ_at HZ.out (by rw [HA.out]; omega) hlt]
        clear hrl hr
        go_wp2_with fail
        go_ret
        exact ⟨ret_int H.out.symm, (by repeat (first | exact Below.refl _ _ | assumption | refine Below.alloc ?_ (by first | exact Nat.le_refl _ | (simp only [World.size_alloc, World.size_setCell, World.size_drew]; omega) | omega) _ | refine Below.setCell ?_ (by first | exact Nat.le_refl _ | (simp only [World.size_alloc, World.size_setCell, World.size_drew]; omega) | omega) _ | refine Below.drew ?_))⟩
      · have HN : Hid (atM xss k (xss.length - 1) = 0) := by rw [Hid, HA.out]; omega
        clear hrl hr
        go_wp2_with fail
        go_round
        case rel =>
          refine ⟨k + 1, by omega, by go_num, fun j hj => ?_⟩
          by_cases e : j = k
          · rw [e]; exact HN.out
          · exact HZ.out j (by omega)
        case measure => simp [intOf]; omega
    · obtain rfl : k = xss.length := by omega
      have H : Hid (topI xss = -1) := by
        by_cases e : xss.length = 0
        · rw [Hid, topI, if_pos e]
        · exfalso
          have h1 := topN_lt HM.out (by omega)
          rw [topN, firstNZ_all HZ.out] at h1
          omega
      clear hx
      go_wp2_with fail
      go_ret
      exact ⟨ret_int H.out.symm, (by repeat (first | exact Below.refl _ _ | assumption | refine Below.alloc ?_ (by first | exact Nat.le_refl _ | (simp only [World.size_alloc, World.size_setCell, World.size_drew]; omega) | omega) _ | refine Below.setCell ?_ (by first | exact Nat.le_refl _ | (simp only [World.size_alloc, World.size_setCell, World.size_drew]; omega) | omega) _ | refine Below.drew ?_))⟩

theorem OwnI.new (w : World) (xs : List Int) (h : xs.length ≤ 1048576) : OwnI (w.alloc (.cells (xs.map (Value.int .i64)).toArray 3)) w.heap.size (.slice (some ⟨w.heap.size, 0, none⟩) xs.length xs.length) xs :=
  ⟨by simp, .inr ⟨w.heap.size, xs.length, (xs.map (Value.int .i64)).toArray, rfl, Nat.le_refl _, heap_alloc_new w _, Nat.le_refl _, by unfold maxLen; omega, by simp, by simp [List.take_of_length_le]⟩⟩

theorem lit_own (w : World) (x : Int) (B : Nat) (hB : B ≤ w.heap.size) : (w.alloc (.cells #[.int .i64 x] 3)).ownsRow B 3 1 (.slice (some ⟨w.heap.size, 0, none⟩) 1 1) 1 [.int .i64 x] := by
  have h := (OwnI.new w [x] (by simp)).mono hB
  exact h

/-- an append of a whole slice of integers, a nil one too, at a step of a region that draws its order -/
theorem step_append_src {P : Program} {w : World} {ops : Array Oper} {o : Oper} {a : Act} {K : Act → World → Prop} {Q : Exit → Act → World → Prop} {E : Prop} (hgd : o.guard = none) (s x : Operand) (t : TypeId)
    (ho : o.op = .call { callee := .builtin .append, args := #[s, x], argTypes := #[t, t] })
    (base : Nat) (e : TypeId) (i : TypeInfo) (z : Value) (bytes : Nat) (ht : P.underlying t = some (.slice e)) (hi : P.info? e = some i) (hz : i.zero = some z)
    (hsize : i.size = 1) (hby : i.bytes = bytes) (hzs : z.cells.size = 1)
    (v : Value) (n : Nat) (xs : List Value) (hs : a.eval s = v) (hown : w.ownsRow base e 1 v n xs)
    (ad : Option Addr) (c : Nat) (R : List Int) (hx : a.eval x = .slice ad R.length c) (hrd : Rd w ad R)
    (h63 : n + R.length ≤ maxLen) (hbytes : (n + R.length) * bytes ≤ 140737488355328) (hbase : base ≤ w.heap.size)
    (h : ∀ v' w', w'.ownsRow base e 1 v' (n + R.length) (xs ++ R.map (Value.int .i64)) → w.grownBy w' v.ownBlock → K (a.put o.dst v') w') :
    if Region.wanted o (yielded ops a.tmps) = true then Oper.wp P o a w K Q else E := by
  have hw : Region.wanted o (yielded ops a.tmps) = true := by simp [Region.wanted, hgd]
  rw [if_pos hw]
  cases ad with
  | some ad => exact wp_append_own w s x t ho base e i z 1 bytes ht hi hz hsize hby hzs (by omega) v n xs hs hown ad R.length c (R.map (Value.int .i64)) hx (by rw [List.length_map, Nat.mul_one]) (rd_news hrd) (ints_one R) h63 hbytes hbase (fun v' w' h2 h3 _ => h v' w' h2 h3)
  | none =>
    have hR : R = [] := by
      rcases R with _ | ⟨y, ys⟩
      · rfl
      · obtain ⟨b, off, e, _⟩ := hrd.cell 0 (by simp)
        cases e
    subst hR
    have hrun : (Builtin.append_ #[t, t] o.type #[v, .slice none 0 c]).run P w = .ok v w := by
      rcases hown.2 with ⟨rfl, rfl⟩ | ⟨g, cap, cur, rfl, _, _, hnc, _⟩
      · simp [Builtin.append_, run_underlying ht, sizeOf, typeInfo, hi, Builtin.lenOf, Builtin.firstCells]
      · simp [Builtin.append_, run_underlying ht, sizeOf, typeInfo, hi, Builtin.lenOf, Builtin.firstCells, hnc, storeCells]
    have h2 := h v w (by simpa using hown) (World.grownBy.refl _ _)
    have hx' : a.eval x = .slice none 0 c := hx
    unfold Oper.wp
    simp [execOp, ho, resolve, invoke, builtin, hs, hx', hrun, Result.andThen]
    exact h2

theorem l1Own_take (a : Option Addr) (xs : List Int) (k cap : Nat) (w : World) (hx : Rd w a xs) (hk : k ≤ xs.length) (hn : k ≤ 1048576) :
    Calls Try.prog 146 #[.slice a k cap] w fun e w' => ∃ a' cap', e = .returned (.slice a' k cap') ∧ OwnI w' w.heap.size (.slice a' k cap') (xs.take k) ∧ Below w.heap.size w w' := by
  have hl : (xs.take k).length = k := by simp; omega
  have h := l1Own_any a (xs.take k) cap w (hx.take k) (by rw [hl]; exact hn)
  rw [hl] at h
  exact h

theorem Rd.drop {w : World} {ad : Addr} {xs : List Int} (h : Rd w (some ad) xs) (k : Nat) : Rd w (some (ad.add k)) (xs.drop k) :=
  ⟨Nat.le_trans (by rw [List.length_drop]; omega) h.len, fun j hj => by
    have hj' : k + j < xs.length := by rw [List.length_drop] at hj; omega
    obtain ⟨b, off, e, hl, hc⟩ := h.cell (k + j) hj'
    simp only [Option.some.injEq] at e
    subst e
    refine ⟨b, off + k, by rw [Addr.add_lit], hl, ?_⟩
    rw [Nat.add_assoc, hc]
    simp [nth, List.getD_eq_getElem?_getD, List.getElem?_drop]⟩

set_option maxRecDepth 100000 in
theorem maWide_any (a : Option Addr) (xs : List Int) (cap x : Nat) (w : World) (hr : Rd w a xs) (hcap : xs.length ≤ cap) (hp : 0 < xs.length) (hx : x ≤ xs.length) (hn : xs.length ≤ 12) :
    Calls Try.prog 198 #[.slice a xs.length cap, .int .i64 (x : Int)] w fun e w' => ∃ a' c', e = .returned (.slice a' (xs.length + 1) c') ∧ OwnI w' w.heap.size (.slice a' (xs.length + 1) c') (xs.take x ++ [0] ++ xs.drop x) ∧ Below w.heap.size w w' := by
  obtain ⟨i0, hi, hz0, hz1, hz2⟩ := info_parts infoInt
  have HX := Lib.hid hr
  obtain ⟨b, off, rfl, hbl, _⟩ := hr.cell 0 (by omega)
  have hxc : x ≤ cap := by omega
  have HL : Hid ((xs.take x ++ [0] ++ xs.drop x).length = xs.length + 1) := by rw [Hid, List.length_append, List.length_append, List.length_take, List.length_drop, List.length_singleton]; omega
  have HDR : Hid (∀ W A, Below w.heap.size w W → (if cap = x then some (⟨b, off, none⟩ : Addr) else some ⟨b, off + x, none⟩) = some A → Rd W (some A) (xs.drop x)) := fun W A hb hA => by
    have h1 := (HX.out.below hb).drop x
    by_cases h9 : cap = x
    · rw [if_pos h9] at hA
      have e : xs.drop x = [] := List.drop_eq_nil_of_le (by omega)
      rw [e]
      exact ⟨by simp, fun k hk => by simp at hk⟩
    · rw [if_neg h9] at hA
      simp only [Option.some.injEq] at hA
      subst hA
      rw [Addr.add_lit] at h1
      exact h1
  obtain ⟨A, hA⟩ : ∃ A : Addr, (if cap = x then some (⟨b, off, none⟩ : Addr) else some ⟨b, off + x, none⟩) = some A := by
    by_cases h9 : cap = x
    · exact ⟨_, if_pos h9⟩
    · exact ⟨_, if_neg h9⟩
  have HA := Lib.hid hA
  have htl : (xs.take x).length = x := by rw [List.length_take]; omega
  have HTL := Lib.hid htl
  have htl1 : (xs.take x ++ [0]).length = x + 1 := by rw [List.length_append, htl]; rfl
  have HTL1 := Lib.hid htl1
  have hwr : IntKind.i64.wrap (x : Int) = (x : Int) := by rw [i64_wrap, IntWalk.wrap64_in _ ⟨by omega, by omega⟩]
  clear htl htl1
  go_enter Try.func198, Try.ntmps198
  go_wp2_with fail
  go_region_law (first
    | (have _g := ho5; refine step_append_src (by rfl) _ _ _ (by rfl) w.heap.size 3 i0 (.int .i64 0) 8 Try.underlying24 hi hz0 hz1 hz2 rfl (.slice (some ⟨g5, 0, none⟩) (x + 1) c5) (x + 1) ((xs.take x ++ [0]).map (Value.int .i64)) (by rfl) (by first | exact ho5r | exact ownsRow_bel ho5r (Below.refl _ _).drew (Nat.le_refl _)) (some A) (cap - x) (xs.drop x) (by simp [Act.eval, Act.put]) (HDR.out _ A (by first | exact b5 | exact b5.drew) HA.out) (by rw [List.length_drop]; unfold maxLen; omega) (by rw [List.length_drop]; omega) (by have := b5.size; omega) ?_; intro v6 w6 ho6 hg6)
    | (have _g := NW; refine step_push (by rfl) _ _ (by rfl) (by rfl) (by rfl) (by first | exact ho3 | exact ho3.below (Joins.below_draws _ _ _) (Nat.le_refl _)) (by exact HTL.out) (by exact NW) (by omega) (by exact ht3.size) ?_; intro g5 c5 w5 ho5 hg5 hat5; have b5 : Below w.heap.size w w5 := ht3.trans (below_of_grown hg5 (fun c e => (ho3.lt c e).1) ht3.size); have ho5r : w5.ownsRow w.heap.size 3 1 (.slice (some ⟨g5, 0, none⟩) (x + 1) c5) (x + 1) ((xs.take x ++ [0]).map (Value.int .i64)) := (by have h := ho5; unfold OwnI at h; rw [HTL1.out] at h; exact h))
    | (have _g := ho3; refine step_push (by rfl) _ _ (by rfl) (by rfl) (by rfl) (by exact ho3.alloc _) (by exact HTL.out) (by simp; rfl) (by omega) (by have := ht3.size; simp; omega) ?_; intro g5 c5 w5 ho5 hg5 hat5; have b5 : Below w.heap.size w w5 := ht3.trans (below_of_grown (grown_alloc_set hg5) (fun c e => (ho3.lt c e).1) ht3.size); have ho5r : w5.ownsRow w.heap.size 3 1 (.slice (some ⟨g5, 0, none⟩) (x + 1) c5) (x + 1) ((xs.take x ++ [0]).map (Value.int .i64)) := (by have h := ho5; unfold OwnI at h; rw [HTL1.out] at h; exact h))
    | (go_simp; go_at_call 146; refine (l1Own_take _ xs x _ _ (by first | exact HX.out.below (Joins.below_draws _ _ _) | exact (HX.out.below (Joins.below_draws _ _ _)).alloc _) (by omega) (by omega)).mono ?_; rintro e w3 ⟨a3, c3, rfl, ho3', hb3⟩; have ht3 : Below w.heap.size w w3 := (by first | exact below_drew hb3 | exact below_after hb3); have ho3 := ho3'.mono (B' := w.heap.size) (by simp); (try have NW := news_after hb3); clear ho3' hb3))
  all_goals
    have hU := World.ownsRow.lt ho5r
    have b6 : Below w.heap.size w w6 := b5.trans (below_of_grown hg6 (fun c e => (hU c e).1) b5.size)
    have o6 : OwnI w6 w.heap.size v6 (xs.take x ++ [0] ++ xs.drop x) := by
      unfold OwnI
      rw [List.map_append, List.length_append, HTL1.out]
      exact ho6
    obtain ⟨a6, c6, e6⟩ := o6.form
    rw [HL.out] at e6
    subst e6
    clear ho6 hg6 hU ho5 ho5r
    go_wp2_with fail
    go_ret
    exact ⟨a6, c6, rfl, o6, b6⟩

set_option maxRecDepth 100000 in
set_option maxHeartbeats 2000000 in
theorem maGrow_any (a : Option Addr) (xss : List (List Int)) (cap x : Nat) (w : World) (hx : RdC w a xss) (hm : mxB xss = true) (hxl : x ≤ xss.length) :
    Calls Try.prog 171 #[.agg #[.slice a xss.length cap], .int .i64 (x : Int)] w fun e w' => ∃ a0 c0 vl, e = .returned (.agg #[.slice a0 (grL xss x).length c0]) ∧ RowsP w' w.heap.size (.slice a0 (grL xss x).length c0) vl (grL xss x) ∧ Below w.heap.size w w' := by
  obtain ⟨i0, hi, hz0, hz1, hz2⟩ := info_parts infoInt
  have hlen := hx.rd.len
  have hV := Var1.new (w.alloc (.cells #[.slice a xss.length cap] 62)) (.slice none 0 0) 62
  have hb0 : Below w.heap.size w ((w.alloc (.cells #[.slice a xss.length cap] 62)).alloc (.cells #[.slice none 0 0] 62)) := (by repeat (first | exact Below.refl _ _ | assumption | refine Below.alloc ?_ (by first | exact Nat.le_refl _ | (simp only [World.size_alloc, World.size_setCell, World.size_drew]; omega) | omega) _ | refine Below.setCell ?_ (by first | exact Nat.le_refl _ | (simp only [World.size_alloc, World.size_setCell, World.size_drew]; omega) | omega) _ | refine Below.drew ?_))
  have hA : Box1 ((w.alloc (.cells #[.slice a xss.length cap] 62)).alloc (.cells #[.slice none 0 0] 62)) w.heap.size (.slice a xss.length cap) := (Box1.new w _ _).below ((Below.refl _ _).alloc (Nat.le_refl _) _)
  rw [World.size_alloc] at hV
  have h12 := mxB_small hm
  have HE := Lib.hid (mx_eta hm)
  have HNUMB := Lib.hid (fun i j (hi : i < xss.length) (hj : j < xss.length) => mxB_num hm hi (j := j) hj)
  have HTL := Lib.hid (fun (h : 0 < xss.length) => topN_lt hm h)
  have HG := Lib.hid (grL_eq hm hxl)
  have HMT := Lib.hid (fun W (h : RdS W a xss) => maTop_any a xss cap W h hm)
  have HL : Hid (∀ k, k < xss.length → (rowL xss k).length = xss.length) := fun k hk => mxB_len hm hk
  have HOWN := Lib.hid (fun W (h : RdS W a xss) => maOwn_any a xss cap xss.length xss.length (atM xss) HE.out W h (by omega) (by omega))
  have hrowE : ∀ k, k < xss.length → rowL xss k = fmap (atM xss k) xss.length := fun k hk => by
    have h := list_fmap (rowL xss k)
    rw [mxB_len hm hk] at h
    exact h
  have HRE := Lib.hid hrowE
  obtain ⟨f, hf⟩ : ∃ f, f = atM xss := ⟨_, rfl⟩
  rw [← hf] at HNUMB HG HE HOWN HRE
  have HX := Lib.hid hx
  obtain ⟨N, hN⟩ : ∃ N, N = xss.length := ⟨_, rfl⟩
  have HN := Lib.hid hN
  have HTP : Hid (topI xss = if N = 0 then -1 else ((topN xss : Nat) : Int)) := by rw [Hid, topI, hN]
  rw [← hN] at hlen h12 HNUMB HTL HE HOWN HRE HG HL HMT hV hb0 hA hxl ⊢
  clear hm hx hf hrowE hN
  obtain ⟨M, hM⟩ : ∃ M, M = N + 1 := ⟨_, rfl⟩
  have HMM := Lib.hid hM
  go_enter Try.func171, Try.ntmps171
  go_wp2_with fail
  refine (HMT.out _ (HX.out.rd.below hb0)).mono ?_
  rintro e w1 ⟨rfl, hb⟩
  have b1 : Below w.heap.size w w1 := hb0.trans (hb.mono (by simp; omega))
  have hV1 := hV.below hb
  have hA1 := hA.below hb
  have ⟨zA1, cA1⟩ := hA1
  have hz1w : w.heap.size + 2 ≤ w1.heap.size := by have := hb.size; simp at this; omega
  have HV1 := Lib.hid hV1
  clear hb hV hA hb0 hV1 HMT
  by_cases ht : (x : Int) ≤ topI xss
  · have HSH : Hid (grL xss x = sqM (grAI f N x) N N) := by rw [Hid, HG.out, if_pos ht]
    rw [HTP.out] at ht ⊢
    have hpos : 0 < N := by
      apply Classical.byContradiction
      intro h
      rw [if_pos (by omega)] at ht
      omega
    rw [if_neg (by omega)] at ht ⊢
    have htl := HTL.out hpos
    have hxN1 : x < N := by omega
    obtain ⟨T, hT⟩ : ∃ T, T = topN xss := ⟨_, rfl⟩
    rw [← hT] at ht htl ⊢
    have hN1 : N - 1 < N := by omega
    have hcast : ((N : Int) - 1) = ((N - 1 : Nat) : Int) := by omega
    clear hT hM
    go_wp2_with fail
    refine (HOWN.out _ (HX.out.rd.below b1)).mono ?_
    rintro e w2 ⟨a0, c0, vl, rfl, hro, hb2⟩
    have b2 := b1.trans (hb2.mono b1.size)
    have hV2 := (HV1.out.below hb2).alloc (.cells #[.slice a0 N c0] 62)
    have hB2 := Box1.new w2 (.slice a0 N c0) 62
    have b2' := b2.alloc b2.size (.cells #[.slice a0 N c0] 62)
    have hro2 := (hro.below ((Below.refl _ _).alloc (Nat.le_refl _) (.cells #[.slice a0 N c0] 62)) (Nat.le_refl _)).mono (B' := w.heap.size + 2) (by omega)
    have hblk := hro.blk
    obtain ⟨g4, e4, hg4, hg5, hc4, hf4⟩ := hro2.outer (k := x) (by rw [sqM_len]; exact hxN1)
    subst e4
    obtain ⟨g6, c6, e6, hg6, hg7, hc6, hf6, hnew⟩ := hro2.num (i := x) (j := N - 1) (by rw [sqM_len]; exact hxN1) (by rw [sqM_rlen hxN1]; omega)
    have hne6 : g6 ≠ w2.heap.size := fun h => by
      have := hblk.2 x (by rw [sqM_len]; exact hxN1) g6 (by rw [e6]; rfl)
      omega
    rw [e6, sqM_rlen hxN1] at hc4
    rw [sqM_at hxN1 hN1] at hc6
    have hset := hnew (f x (N - 1) + 1)
    rw [setM_sq hxN1 hN1] at hset
    have hset2 : RowsP ((w2.alloc (.cells #[.slice (some ⟨g4, 0, none⟩) N c0] 62)).setCell ⟨g6, N - 1, none⟩ (.int .i64 (f x (N - 1) + 1))) (w.heap.size + 2) (.slice (some ⟨g4, 0, none⟩) N c0) vl (sqM (grAI f N x) N N) := hset
    have b4 := b2'.setCell (p := ⟨g6, N - 1, none⟩) (show w.heap.size ≤ g6 by omega) (.int .i64 (f x (N - 1) + 1))
    have hV4 := hV2.other (p := ⟨g6, N - 1, none⟩) (.int .i64 (f x (N - 1) + 1)) (show w.heap.size + 1 ≠ g6 by omega)
    have hB4 : Box1 ((w2.alloc (.cells #[.slice (some ⟨g4, 0, none⟩) N c0] 62)).setCell ⟨g6, N - 1, none⟩ (.int .i64 (f x (N - 1) + 1))) w2.heap.size (.slice (some ⟨g4, 0, none⟩) N c0) := hB2.kept (grown_set _ _ _) (by simp; omega)
    have ⟨z0, z9⟩ := HNUMB.out x (N - 1) hxN1 hN1
    obtain ⟨Z, hZ⟩ : ∃ Z, Z = f x (N - 1) := ⟨_, rfl⟩
    rw [← hZ] at hc6 hset2 b4 hV4 hB4 z0 z9
    have HS4 := Lib.hid hset2
    have HV4 := Lib.hid hV4
    have ⟨⟨zV4, cV4⟩, fV4⟩ := hV4
    have ⟨zB2, cB2⟩ := hB2
    have ⟨zB4, cB4⟩ := hB4
    clear hro hro2 hnew hset hset2 hV2 hV4 hb2 e6 hZ hblk hB2 hB4 cA1
    go_wp2_with fail
    have hV6 := HV4.out.set (.slice (some ⟨g4, 0, none⟩) N c0)
    have b6 := b4.setCell (p := ⟨w.heap.size + 1, 0, none⟩) (by simp) (.slice (some ⟨g4, 0, none⟩) N c0)
    refine bodyPost_ret (v := .agg #[.slice (some ⟨g4, 0, none⟩) N c0]) (by have ⟨⟨_, q1⟩, _⟩ := hV6; simp [results, Try.results171, go_sem, q1]) rfl ?_
    exact ⟨some ⟨g4, 0, none⟩, c0, vl, by rw [HSH.out, sqM_len], by rw [HSH.out, sqM_len]; exact (HS4.out.setBelow (show w.heap.size + 1 < w.heap.size + 2 by omega) _).mono (by omega), b6⟩
  · have HSH : Hid (grL xss x = sqM (grBI f N x) M M) := by rw [Hid, HG.out, if_neg ht, hM]
    have hO1 := Var1.new w1 (.slice none 0 0) 62
    have bb1 : Below w1.heap.size w1 (w1.alloc (.cells #[.slice none 0 0] 62)) := (by repeat (first | exact Below.refl _ _ | assumption | refine Below.alloc ?_ (by first | exact Nat.le_refl _ | (simp only [World.size_alloc, World.size_setCell, World.size_drew]; omega) | omega) _ | refine Below.setCell ?_ (by first | exact Nat.le_refl _ | (simp only [World.size_alloc, World.size_setCell, World.size_drew]; omega) | omega) _ | refine Below.drew ?_))
    have HV2 := Lib.hid (HV1.out.below bb1)
    have HO1 := Lib.hid hO1
    have HB1 := Lib.hid (b1.trans (bb1.mono b1.size))
    have hA2 := hA1.below bb1
    have HA2 := Lib.hid hA2
    have ⟨zA2, cA2⟩ := hA2
    obtain ⟨b4, hb4⟩ : ∃ b4, b4 = w1.heap.size := ⟨_, rfl⟩
    have HB4 := Lib.hid hb4
    have hz4 : w.heap.size + 2 ≤ b4 := by omega
    rw [← hb4] at HO1
    generalize topI xss = tI at ht ⊢
    have hcM : ((N : Int) + 1) = (M : Int) := by omega
    have hNM : N < M := by omega
    have hM13 : M ≤ 13 := by omega
    clear hb4 hO1 bb1 hA2 HOWN hM b1
    go_wp2_with fail
    go_loopw [8] (fun i wr => ∃ (k : Nat) (v : Value) (vl : List Value), k ≤ M ∧ i = .int .i64 k ∧ Var1 wr b4 v ∧ RowsP wr (b4 + 1) v vl (sqM (grBI f N x) k M) ∧ Var1 wr (w.heap.size + 1) (.slice none 0 0) ∧ Below w.heap.size w wr ∧ Box1 wr w.heap.size (.slice a N cap)) (fun i _ => M - (intOf i).toNat)
    case atStart => exact ⟨0, .slice none 0 0, [], Nat.zero_le _, rfl, HO1.out, RowsP.nil _ _, HV2.out, HB1.out, HA2.out⟩
    case round =>
      rw [← HB4.out]
      obtain ⟨k, v, vl, hk, rfl, hO, hro, hV, hb, hA⟩ := hrel
      have HA := Lib.hid hA
      have ⟨zA, cA⟩ := hA
      clear hA
      have hbs := hb.size
      have hO9 := hO.1.1
      have HRO := Lib.hid hro
      obtain ⟨av, cv, ev⟩ := hro.o.form
      rw [sqM_len] at ev
      subst ev
      have HO := Lib.hid hO
      have HV := Lib.hid hV
      by_cases hlt : k < M
      · skip
        have k0 : (k : Int) ≤ (N : Int) := by omega
        have HN1 : Hid (sqM (grBI f N x) (k+1) M = sqM (grBI f N x) k M ++ [fmap (grBI f N x k) M]) := sqM_succ _ _ _
        have h63 : (sqM (grBI f N x) k M).length ≤ 1048576 := by rw [sqM_len]; omega
        obtain ⟨W1, hW1⟩ : ∃ x : World, x = wr := ⟨_, rfl⟩
        subst hW1
        have ⟨⟨zO, cO⟩, fO⟩ := hO
        by_cases hkx : k = x
        · have hkk : ((k : Int) == (x : Int)) = true := by simp [hkx]
          have HRW : Hid ((List.replicate M (0:Int)).set N 1 = fmap (grBI f N x k) M) := by rw [Hid, hkx, HMM.out]; exact gr_mid
          clear hkx hro hO hV
          go_wp2_with (at_make; refine wpList_make_full _ rfl (.tmp 69) (.tmp 69) 24 rfl W1.heap.size 3 i0 (.int .i64 0) 1 Try.underlying24 hi hz0 hz1 .i64 .i64 _ _ M rfl rfl rfl rfl (by rw [hz2]; omega) (by unfold maxLen; omega) (Nat.le_refl _) ?_)
          intro w3 hown hgrow
          have hb3 : Below W1.heap.size W1 w3 := (Below.refl _ _).grown hgrow (Nat.le_refl _) (fun k h => by cases h)
          have hown1 := made_row (fun _ => 0) (by rw [Nat.mul_one]; exact hown)
          rw [show rowF (fun _ => 0) M 0 = List.replicate M (0:Int) by simp [rowF, fmap]] at hown1
          have hlr : (List.replicate M (0:Int)).length = M := List.length_replicate
          have ⟨cN, fN⟩ := hown1.at' hlr.symm (i := N) (by omega)
          have hput := (hown1.put hlr.symm N 1).1
          rw [HRW.out] at hput
          have hbU := hb3.setCell (p := ⟨W1.heap.size, N, none⟩) (Nat.le_refl _) (.int .i64 1)
          have HU3 := Lib.hid hput
          have HRO3 := Lib.hid (HRO.out.below hbU (Nat.le_refl _))
          have hO3 := HO.out.below hbU
          have ⟨⟨zO2, cO2⟩, fO2⟩ := HO.out.below hb3
          have ⟨⟨zO3, cO3⟩, fO3⟩ := hO3
          have HO3 := Lib.hid hO3
          have HV3 := Lib.hid (HV.out.below hbU)
          have HA3 := Lib.hid (HA.out.below hbU)
          have HB3 := Lib.hid (hb.trans (hbU.mono hbs))
          clear hown hgrow hown1 hlr hput hO3
          go_wp2_with (at_builtin; refine push_row (v := .slice av k cv) (C := W1.heap.size) rfl _ _ rfl rfl HRO3.out HU3.out (by first | rfl | (simp only [World.size_setCell]; rfl) | simp [Act.eval]) h63 (by omega) (by have := hbU.size; omega) (fun c e => (HRO.out.blk.1 c e)) (fun i hi c e => HRO.out.blk.2 i hi c e) ?_)
          intro v5 w5 ho5 hg5
          have hlo := HRO3.out.o.lt
          have hO5 := HO3.out.kept hg5 (ne_own (fun c e => by have := (hlo c e).1; omega))
          have hV5 := HV3.out.kept hg5 (ne_own (fun c e => by have := (hlo c e).1; omega))
          have b5 : Below w.heap.size w w5 := HB3.out.trans (below_of_grown hg5 (fun c e => by have := (hlo c e).1; omega) (by have := HB3.out.size; omega))
          obtain ⟨a5, c5, e5⟩ := ho5.o.form
          subst e5
          have ⟨⟨zO5, cO5⟩, fO5⟩ := hO5
          obtain ⟨L5, hL5⟩ : ∃ L5, L5 = (sqM (grBI f N x) k M ++ [fmap (grBI f N x k) M]).length := ⟨_, rfl⟩
          rw [← hL5] at ho5 ⊢
          have ho6 := ho5.setBelow (p := ⟨b4, 0, none⟩) (show b4 < b4 + 1 by omega) (.slice a5 L5 c5)
          have hO6 := hO5.set (.slice a5 L5 c5)
          have HA6 := Lib.hid ((HA3.out.kept hg5 (ne_own (fun c e => by have := (hlo c e).1; omega))).kept (grown_set w5 ⟨b4, 0, none⟩ (.slice a5 L5 c5)) (by simp; omega))
          have hV6 := hV5.other (p := ⟨b4, 0, none⟩) (.slice a5 L5 c5) (show w.heap.size + 1 ≠ b4 by omega)
          have b6 := b5.setCell (p := ⟨b4, 0, none⟩) (show w.heap.size ≤ b4 by omega) (.slice a5 L5 c5)
          have H6 := Lib.hid (And.intro ho6 (And.intro hO6 (And.intro hV6 b6)))
          clear ho5 hg5 hlo hO5 hV5 ho6 hO6 hV6 hL5
          go_wp2_with fail
          go_roundw
          case rel => exact ⟨k + 1, _, _, by omega, by go_num, H6.out.2.1, by rw [HN1.out]; exact H6.out.1, H6.out.2.2.1, H6.out.2.2.2, HA6.out⟩
          case measure => simp [intOf]; omega
        · have hkk : ((k : Int) == (x : Int)) = false := by simp; omega
          by_cases hkx2 : x < k
          · have g1 : (x : Int) < (k : Int) := by omega
            have hxN : x ≤ N := by omega
            obtain ⟨j, hj⟩ : ∃ j, j = k - 1 := ⟨_, rfl⟩
            have hcj : ((k : Int) - 1) = (j : Int) := by omega
            have hcj2 : IntKind.i64.wrap (j : Int) = (j : Int) := by rw [i64_wrap, IntWalk.wrap64_in _ ⟨by omega, by omega⟩]
            have hjN : j < N := by omega
            obtain ⟨b5, off5, a5, cap5, rfl, hbl5, hc5, hr5, hle5⟩ := (HX.out.below hb).row (k := j) (by rw [← HN.out]; exact hjN)
            rw [HL.out j hjN] at hc5 hle5
            rw [HRE.out j hjN] at hr5
            have HNR : Hid (∀ W, Below W1.heap.size W1 W → Calls Try.prog 198 #[.slice a5 N cap5, .int .i64 (x : Int)] W fun e w' => ∃ a' c', e = .returned (.slice a' M c') ∧ OwnI w' W.heap.size (.slice a' M c') (fmap (grBI f N x k) M) ∧ Below W.heap.size W w') := fun W h => by
              have h1 := maWide_any a5 (fmap (f j) N) cap5 x W (hr5.below h) (by rw [fmap_len]; exact hle5) (by rw [fmap_len]; omega) (by rw [fmap_len]; exact hxN) (by rw [fmap_len]; omega)
              rw [fmap_len, fmap_ins hxN, hj, gr_hi (d := N) hkx2, ← HMM.out] at h1
              exact h1
            clear hj hkx2 hkx hro hO hV hr5 hle5
            go_wp2_with fail
            go_region_law (first | (have _g := HR2; refine step_push_row (by rfl) _ _ (by rfl) (by rfl) (by rfl) (HR2.out.below ((Below.refl _ _).alloc (Nat.le_refl _) _) (Nat.le_refl _)) (sqM_len _ _ _) (ho3.alloc _) (by simp) (by omega) (by omega) (by simp; omega) (HRO.out.blk.1) (HRO.out.blk.2) ?_; intro g5 c5 w5 ho5 hg5; have hg6 := grown_alloc_set hg5; have hO5 := HO3.out.kept hg6 (ne_own (fun c e => by have := (HR2.out.o.lt c e).1; omega)); have ⟨⟨zO5, cO5⟩, fO5⟩ := hO5) | (go_simp; go_at_call 198; refine (HNR.out _ (Joins.below_draws _ _ _)).mono ?_; rintro e w3 ⟨a3, c3, rfl, ho3', hb3⟩; have ht3 := (Joins.below_draws _ _ _).trans hb3; have hs3 := ht3.size; have ho3 := ho3'.mono (B' := W1.heap.size) (by simp); have HR2 := Lib.hid (HRO.out.below ht3 (Nat.le_refl _)); have HO3 := Lib.hid (HO.out.below ht3); have ⟨⟨zO3, cO3⟩, fO3⟩ := HO3.out; have HA3 := Lib.hid (HA.out.below ht3); clear ho3' hb3))
            all_goals
              have hlo := HR2.out.o.lt
              have hV5 := (HV.out.below ht3).kept hg6 (ne_own (fun c e => by have := (hlo c e).1; omega))
              have b5 : Below w.heap.size w w5 := (hb.trans (ht3.mono hbs)).trans (below_of_grown hg6 (fun c e => by have := (hlo c e).1; omega) (by omega))
              have ho6 := ho5.setBelow (p := ⟨b4, 0, none⟩) (show b4 < b4 + 1 by omega) (.slice (some ⟨g5, 0, none⟩) (k + 1) c5)
              have hO6 := hO5.set (.slice (some ⟨g5, 0, none⟩) (k + 1) c5)
              have HA6 := Lib.hid ((HA3.out.kept hg6 (ne_own (fun c e => by have := (hlo c e).1; omega))).kept (grown_set w5 ⟨b4, 0, none⟩ (.slice (some ⟨g5, 0, none⟩) (k + 1) c5)) (by simp; omega))
              have hV6 := hV5.other (p := ⟨b4, 0, none⟩) (.slice (some ⟨g5, 0, none⟩) (k + 1) c5) (show w.heap.size + 1 ≠ b4 by omega)
              have b6 := b5.setCell (p := ⟨b4, 0, none⟩) (show w.heap.size ≤ b4 by omega) (.slice (some ⟨g5, 0, none⟩) (k + 1) c5)
              have H6 := Lib.hid (And.intro ho6 (And.intro hO6 (And.intro hV6 b6)))
              clear ho5 hg5 hg6 hlo hO5 hV5 ho6 hO6 hV6 HR2 ho3 HO3
              go_wp2_with fail
              go_roundw
              case rel => exact ⟨k + 1, _, _, by omega, by go_num, H6.out.2.1, by rw [HN1.out]; exact H6.out.1, H6.out.2.2.1, H6.out.2.2.2, HA6.out⟩
              case measure => simp [intOf]; omega
          · have g1 : ¬ (x : Int) < (k : Int) := by omega
            have hkN : k < N := by omega
            have hkx3 : k < x := by omega
            have hxN : x ≤ N := by omega
            obtain ⟨b5, off5, a5, cap5, rfl, hbl5, hc5, hr5, hle5⟩ := (HX.out.below hb).row (k := k) (by rw [← HN.out]; exact hkN)
            rw [HL.out k hkN] at hc5 hle5
            rw [HRE.out k hkN] at hr5
            have HNR : Hid (Calls Try.prog 198 #[.slice a5 N cap5, .int .i64 (x : Int)] W1 fun e w' => ∃ a' c', e = .returned (.slice a' M c') ∧ OwnI w' W1.heap.size (.slice a' M c') (fmap (wdF (f k) x) M) ∧ Below W1.heap.size W1 w') := by
              have h1 := maWide_any a5 (fmap (f k) N) cap5 x W1 hr5 (by rw [fmap_len]; exact hle5) (by rw [fmap_len]; omega) (by rw [fmap_len]; exact hxN) (by rw [fmap_len]; omega)
              rw [fmap_len, fmap_ins hxN, ← HMM.out] at h1
              exact h1
            clear hkx hkx2 hro hO hV hr5 hle5
            go_wp2_with fail
            refine HNR.out.mono ?_
            rintro e w2 ⟨a2, c2, rfl, ho2, hb2⟩
            have hs2 := hb2.size
            have hpt : ∃ g2, a2 = some ⟨g2, 0, none⟩ := by
              rcases ho2.2 with ⟨e9, h0⟩ | ⟨g9, cap9, cur9, e9, _⟩
              · rw [fmap_len] at h0; omega
              · simp only [Value.slice.injEq] at e9; exact ⟨g9, e9.1⟩
            obtain ⟨g2, rfl⟩ := hpt
            have hgl := ho2.lt g2 rfl
            have ⟨⟨zO2, cO2⟩, fO2⟩ := HO.out.below hb2
            have hwl : (fmap (wdF (f k) x) M).length = M := fmap_len _ _
            by_cases hxN2 : x < N
            · have t2 : (x : Int) < (N : Int) := by omega
              have ⟨cx, fx⟩ := ho2.at' hwl.symm (i := x) (by omega)
              have ⟨cN, fN⟩ := ho2.at' hwl.symm (i := N) (by omega)
              rw [fmap_nth _ (by omega)] at cx cN
              have hput1 := (ho2.put hwl.symm x (wdF (f k) x N)).1
              have hput2 := (hput1.put (by rw [List.length_set]; exact hwl.symm) N 0).1
              rw [HMM.out, gr_lo hkx3 hxN2, ← HMM.out] at hput2
              have hbU := (hb2.setCell (p := ⟨g2, x, none⟩) hgl.1 (.int .i64 (wdF (f k) x N))).setCell (p := ⟨g2, N, none⟩) hgl.1 (.int .i64 0)
              obtain ⟨V, hVV⟩ : ∃ V, V = wdF (f k) x N := ⟨_, rfl⟩
              obtain ⟨U, hUU⟩ : ∃ V, V = wdF (f k) x x := ⟨_, rfl⟩
              rw [← hVV] at cN hput2 hbU
              rw [← hUU] at cx
              have HU3 := Lib.hid hput2
              have hne9 : ¬ x = N := by omega
              have hne8 : ¬ N = x := by omega
              have hO3 := HO.out.below hbU
              have ⟨⟨zO3, cO3⟩, fO3⟩ := hO3
              have HO3 := Lib.hid hO3
              have HRO3 := Lib.hid (HRO.out.below hbU (Nat.le_refl _))
              have HV3 := Lib.hid (HV.out.below hbU)
              have HA3 := Lib.hid (HA.out.below hbU)
              have HB3 := Lib.hid (hb.trans (hbU.mono hbs))
              clear hO3
              clear hput1 hput2 hwl ho2 hVV hUU
              go_wp2_with (at_builtin; refine push_row (v := .slice av k cv) (C := W1.heap.size) rfl _ _ rfl rfl HRO3.out HU3.out (by first | rfl | (simp only [World.size_setCell]; rfl) | simp [Act.eval]) h63 (by omega) (by have := hbU.size; omega) (fun c e => (HRO.out.blk.1 c e)) (fun i hi c e => HRO.out.blk.2 i hi c e) ?_)
              intro v5 w5 ho5 hg5
              have hlo := HRO3.out.o.lt
              have hO5 := HO3.out.kept hg5 (ne_own (fun c e => by have := (hlo c e).1; omega))
              have hV5 := HV3.out.kept hg5 (ne_own (fun c e => by have := (hlo c e).1; omega))
              have b5 : Below w.heap.size w w5 := HB3.out.trans (below_of_grown hg5 (fun c e => by have := (hlo c e).1; omega) (by have := HB3.out.size; omega))
              obtain ⟨a5, c5, e5⟩ := ho5.o.form
              subst e5
              have ⟨⟨zO5, cO5⟩, fO5⟩ := hO5
              obtain ⟨L5, hL5⟩ : ∃ L5, L5 = (sqM (grBI f N x) k M ++ [fmap (grBI f N x k) M]).length := ⟨_, rfl⟩
              rw [← hL5] at ho5 ⊢
              have ho6 := ho5.setBelow (p := ⟨b4, 0, none⟩) (show b4 < b4 + 1 by omega) (.slice a5 L5 c5)
              have hO6 := hO5.set (.slice a5 L5 c5)
              have HA6 := Lib.hid ((HA3.out.kept hg5 (ne_own (fun c e => by have := (hlo c e).1; omega))).kept (grown_set w5 ⟨b4, 0, none⟩ (.slice a5 L5 c5)) (by simp; omega))
              have hV6 := hV5.other (p := ⟨b4, 0, none⟩) (.slice a5 L5 c5) (show w.heap.size + 1 ≠ b4 by omega)
              have b6 := b5.setCell (p := ⟨b4, 0, none⟩) (show w.heap.size ≤ b4 by omega) (.slice a5 L5 c5)
              have H6 := Lib.hid (And.intro ho6 (And.intro hO6 (And.intro hV6 b6)))
              clear ho5 hg5 hlo hO5 hV5 ho6 hO6 hV6 hL5
              go_wp2_with fail
              go_roundw
              case rel => exact ⟨k + 1, _, _, by omega, by go_num, H6.out.2.1, by rw [HN1.out]; exact H6.out.1, H6.out.2.2.1, H6.out.2.2.2, HA6.out⟩
              case measure => simp [intOf]; omega
            · have t2 : ¬ (x : Int) < (N : Int) := by omega
              have hxe : x = N := by omega
              have e9 : fmap (wdF (f k) x) M = fmap (grBI f N x k) M := by rw [HMM.out, hxe]; exact gr_end hkN
              have hU := ho2
              rw [e9] at hU
              have HU3 := Lib.hid hU
              have hbU := hb2
              have hO3 := HO.out.below hbU
              have ⟨⟨zO3, cO3⟩, fO3⟩ := hO3
              have HO3 := Lib.hid hO3
              have HRO3 := Lib.hid (HRO.out.below hbU (Nat.le_refl _))
              have HV3 := Lib.hid (HV.out.below hbU)
              have HA3 := Lib.hid (HA.out.below hbU)
              have HB3 := Lib.hid (hb.trans (hbU.mono hbs))
              clear hO3
              clear hwl ho2 hU hxe e9
              go_wp2_with (at_builtin; refine push_row (v := .slice av k cv) (C := W1.heap.size) rfl _ _ rfl rfl HRO3.out HU3.out (by first | rfl | (simp only [World.size_setCell]; rfl) | simp [Act.eval]) h63 (by omega) (by have := hbU.size; omega) (fun c e => (HRO.out.blk.1 c e)) (fun i hi c e => HRO.out.blk.2 i hi c e) ?_)
              intro v5 w5 ho5 hg5
              have hlo := HRO3.out.o.lt
              have hO5 := HO3.out.kept hg5 (ne_own (fun c e => by have := (hlo c e).1; omega))
              have hV5 := HV3.out.kept hg5 (ne_own (fun c e => by have := (hlo c e).1; omega))
              have b5 : Below w.heap.size w w5 := HB3.out.trans (below_of_grown hg5 (fun c e => by have := (hlo c e).1; omega) (by have := HB3.out.size; omega))
              obtain ⟨a5, c5, e5⟩ := ho5.o.form
              subst e5
              have ⟨⟨zO5, cO5⟩, fO5⟩ := hO5
              obtain ⟨L5, hL5⟩ : ∃ L5, L5 = (sqM (grBI f N x) k M ++ [fmap (grBI f N x k) M]).length := ⟨_, rfl⟩
              rw [← hL5] at ho5 ⊢
              have ho6 := ho5.setBelow (p := ⟨b4, 0, none⟩) (show b4 < b4 + 1 by omega) (.slice a5 L5 c5)
              have hO6 := hO5.set (.slice a5 L5 c5)
              have HA6 := Lib.hid ((HA3.out.kept hg5 (ne_own (fun c e => by have := (hlo c e).1; omega))).kept (grown_set w5 ⟨b4, 0, none⟩ (.slice a5 L5 c5)) (by simp; omega))
              have hV6 := hV5.other (p := ⟨b4, 0, none⟩) (.slice a5 L5 c5) (show w.heap.size + 1 ≠ b4 by omega)
              have b6 := b5.setCell (p := ⟨b4, 0, none⟩) (show w.heap.size ≤ b4 by omega) (.slice a5 L5 c5)
              have H6 := Lib.hid (And.intro ho6 (And.intro hO6 (And.intro hV6 b6)))
              clear ho5 hg5 hlo hO5 hV5 ho6 hO6 hV6 hL5
              go_wp2_with fail
              go_roundw
              case rel => exact ⟨k + 1, _, _, by omega, by go_num, H6.out.2.1, by rw [HN1.out]; exact H6.out.1, H6.out.2.2.1, H6.out.2.2.2, HA6.out⟩
              case measure => simp [intOf]; omega
      · obtain rfl : k = M := by omega
        have t1 : ¬ (k : Int) ≤ (N : Int) := by omega
        have ⟨⟨zO, cO⟩, fO⟩ := hO
        have ⟨⟨zV, cV⟩, fV⟩ := hV
        clear hro hO hV
        go_wp2_with fail
        have hV2 := HV.out.set (.slice av k cv)
        have b2 := hb.setCell (p := ⟨w.heap.size + 1, 0, none⟩) (by simp) (.slice av k cv)
        refine bodyPost_ret (v := .agg #[.slice av k cv]) (by have ⟨⟨_, q1⟩, _⟩ := hV2; simp [results, Try.results171, go_sem, q1]) rfl ?_
        exact ⟨av, cv, by rw [HSH.out, sqM_len], ⟨vl, by rw [HSH.out, sqM_len]; exact (HRO.out.setBelow (show w.heap.size + 1 < b4 + 1 by omega) _).mono (by omega)⟩, b2⟩

set_option maxRecDepth 100000 in
set_option maxHeartbeats 1000000 in
theorem maOf_any (a : Option Addr) (xs : List Int) (cap : Nat) (w : World) (hx : Rd w a xs) (hm : ascB xs = true) :
    Calls Try.prog 112 #[.slice a xs.length cap] w fun e w' => ∃ a0 c0 vl, e = .returned (.agg #[.slice a0 (moK xs xs.length).length c0]) ∧ RowsP w' w.heap.size (.slice a0 (moK xs xs.length).length c0) vl (moK xs xs.length) ∧ Below w.heap.size w w' := by
  have hlen := hx.len
  have hV := Var1.new w (.slice none 0 0) 62
  have hb0 : Below w.heap.size w (w.alloc (.cells #[.slice none 0 0] 62)) := (by repeat (first | exact Below.refl _ _ | assumption | refine Below.alloc ?_ (by first | exact Nat.le_refl _ | (simp only [World.size_alloc, World.size_setCell, World.size_drew]; omega) | omega) _ | refine Below.setCell ?_ (by first | exact Nat.le_refl _ | (simp only [World.size_alloc, World.size_setCell, World.size_drew]; omega) | omega) _ | refine Below.drew ?_))
  have HX := Lib.hid hx
  have h12 := (ascB_iff.1 hm).1
  have HOK := Lib.hid (fun k (hk : k ≤ xs.length) => moK_ok hm hk)
  have HGB := Lib.hid (fun k (hk : k < xs.length) => moK_gw hm hk)
  have HNB := Lib.hid (fun k (hk : k < xs.length) => ascB_small hm hk)
  obtain ⟨w1, hw1⟩ : ∃ w1, w1 = w.alloc (.cells #[.slice none 0 0] 62) := ⟨_, rfl⟩
  have bb1 : Below w1.heap.size w1 (w1.alloc (.cells #[.slice none 0 0] 62)) := (by repeat (first | exact Below.refl _ _ | assumption | refine Below.alloc ?_ (by first | exact Nat.le_refl _ | (simp only [World.size_alloc, World.size_setCell, World.size_drew]; omega) | omega) _ | refine Below.setCell ?_ (by first | exact Nat.le_refl _ | (simp only [World.size_alloc, World.size_setCell, World.size_drew]; omega) | omega) _ | refine Below.drew ?_))
  have hz1 : w1.heap.size = w.heap.size + 1 := by rw [hw1]; simp
  rw [← hw1] at hV hb0
  have HV1 := Lib.hid (hV.below bb1)
  have HO1 := Lib.hid (Var1.new w1 (.slice none 0 0) 62)
  have HB1 := Lib.hid (hb0.trans (bb1.mono hb0.size))
  rw [hw1] at HO1 HV1 HB1
  rw [World.size_alloc] at HO1
  obtain ⟨N, hN⟩ : ∃ N, N = xs.length := ⟨_, rfl⟩
  have HN := Lib.hid hN
  rw [← hN] at hlen h12 HOK HGB HNB ⊢
  clear hV bb1 hx hw1 hz1 hb0 hN hm
  go_enter Try.func112, Try.ntmps112
  go_wp2_with fail
  go_loopw [9] (fun i wr => ∃ (k : Nat) (v : Value) (vl : List Value), k ≤ N ∧ i = .int .i64 k ∧ Var1 wr (w.heap.size + 1) v ∧ RowsP wr (w.heap.size + 2) v vl (moK xs k) ∧ Var1 wr w.heap.size (.slice none 0 0) ∧ Below w.heap.size w wr) (fun i _ => N - (intOf i).toNat)
  case atStart => exact ⟨0, .slice none 0 0, [], Nat.zero_le _, rfl, HO1.out, RowsP.nil _ _, HV1.out, HB1.out⟩
  case round =>
    obtain ⟨k, v, vl, hk, rfl, hO, hro, hV, hb⟩ := hrel
    have hbs := hb.size
    have hO9 := hO.1.1
    obtain ⟨av, cv, ev⟩ := hro.o.form
    subst ev
    have ⟨⟨zO, cO⟩, fO⟩ := hO
    by_cases hlt : k < N
    · have k1 : (k : Int) < (N : Int) := by omega
      obtain ⟨b, off, rfl, hbl, hc⟩ := (HX.out.below hb).cell k (by rw [← HN.out]; exact hlt)
      have ⟨gm, g0, g1, g2⟩ := gwB_iff.1 (HGB.out k hlt)
      obtain ⟨x, hxx⟩ : ∃ x : Nat, nth xs k = (x : Int) := ⟨(nth xs k).toNat, by omega⟩
      have HG := Lib.hid (maGrow_any av (moK xs k) cv x wr hro.rdC gm (by omega))
      rw [show grL (moK xs k) x = moK xs (k+1) by rw [moK, hxx, Int.toNat_natCast]] at HG
      have HV := Lib.hid hV
      have HO := Lib.hid hO
      rw [hxx] at hc
      obtain ⟨L, hL⟩ : ∃ L, L = (moK xs (k+1)).length := ⟨_, rfl⟩
      have HL := Lib.hid hL
      rw [← hL] at HG
      generalize (moK xs k).length = L0 at HG cO ⊢
      clear hro hV hO hxx hL gm g0 g1 g2
      go_wp2_with fail
      refine HG.out.mono ?_
      rintro e w2 ⟨a2, c2, ul, rfl, hro2, hb2⟩
      have hO2 := HO.out.below hb2
      have hV2 := HV.out.below hb2
      have b2 := hb.trans (hb2.mono hbs)
      have ⟨⟨zO2, cO2⟩, fO2⟩ := hO2
      have hs2 := hb2.size
      have hO3 := hO2.set (.slice a2 L c2)
      have hV3 := hV2.other (p := ⟨w.heap.size + 1, 0, none⟩) (.slice a2 L c2) (show w.heap.size ≠ w.heap.size + 1 by omega)
      have hro3 := (hro2.setBelow (p := ⟨w.heap.size + 1, 0, none⟩) hO9 (.slice a2 L c2)).mono (B' := w.heap.size + 2) (by omega)
      have b3 := b2.setCell (p := ⟨w.heap.size + 1, 0, none⟩) (show w.heap.size ≤ w.heap.size + 1 by omega) (.slice a2 L c2)
      have H6 := Lib.hid (And.intro hO3 (And.intro hro3 (And.intro hV3 b3)))
      clear hro2 hO2 hV2 hO3 hV3 hro3 b3 hb2
      go_wp2_with fail
      go_roundw
      case rel => exact ⟨k + 1, _, _, by omega, by go_num, H6.out.1, H6.out.2.1, H6.out.2.2.1, H6.out.2.2.2⟩
      case measure => simp [intOf]; omega
    · obtain rfl : k = N := by omega
      have ⟨⟨zV, cV⟩, fV⟩ := hV
      obtain ⟨L, hL⟩ : ∃ L, L = (moK xs k).length := ⟨_, rfl⟩
      have HL := Lib.hid hL
      rw [← hL] at hro cO
      have HRO := Lib.hid hro
      have HV := Lib.hid hV
      clear hro hO hV hL
      go_wp2_with fail
      have hV2 := HV.out.set (.slice av L cv)
      have b2 := hb.setCell (p := ⟨w.heap.size, 0, none⟩) (by simp) (.slice av L cv)
      refine bodyPost_ret (v := .agg #[.slice av L cv]) (by have ⟨⟨_, q1⟩, _⟩ := hV2; simp [results, Try.results112, go_sem, q1]) rfl ?_
      exact ⟨av, cv, vl, by rw [HL.out], by rw [← HL.out]; exact (HRO.out.setBelow (show w.heap.size < w.heap.size + 2 by omega) _).mono (by omega), b2⟩

theorem rd_lit5 (w : World) (x0 x1 x2 x3 x4 : Int) (t : TypeId) : Rd (w.alloc (.cells #[.int .i64 x0, .int .i64 x1, .int .i64 x2, .int .i64 x3, .int .i64 x4] t)) (some ⟨w.heap.size, 0, none⟩) [x0, x1, x2, x3, x4] :=
  ⟨by simp, fun k hk => ⟨w.heap.size, 0, rfl, by simp, by
    have : k = 0 ∨ k = 1 ∨ k = 2 ∨ k = 3 ∨ k = 4 := by simp at hk; omega
    rcases this with rfl | rfl | rfl | rfl | rfl <;> simp [nth]⟩⟩
set_option maxRecDepth 100000 in
set_option maxHeartbeats 4000000 in
theorem matrix_any (p L m : Nat) (w : World) (h : Cur w p L) (hL : L ≤ 600000000) (hm : m ≤ 12) :
    Calls Try.prog 120 #[.pointer (some ⟨p, 0, none⟩), .int .i64 (m : Int)] w (MatD w p (L + 200)) := by
  have hpw := h.lt
  have hb0 : Below w.heap.size w (w.alloc (.cells #[.slice none 0 0] 62)) := (by repeat (first | exact Below.refl _ _ | assumption | refine Below.alloc ?_ (by first | exact Nat.le_refl _ | (simp only [World.size_alloc, World.size_setCell, World.size_drew]; omega) | omega) _ | refine Below.setCell ?_ (by first | exact Nat.le_refl _ | (simp only [World.size_alloc, World.size_setCell, World.size_drew]; omega) | omega) _ | refine Below.drew ?_))
  have H := Lib.hid (h.below hb0)
  have HZ := Lib.hid (Var1.new w (.slice none 0 0) 62)
  clear h
  go_enter Try.func120, Try.ntmps120
  go_wp2_with fail
  refine (ascent_any p L m _ H.out hL hm).mono ?_
  rintro e w1 ⟨a1, c1, xs, rfl, ho1, hl1, hx1, hc1, hd1⟩
  have hs1 : w.heap.size + 1 ≤ w1.heap.size := by have := hd1.size; simpa using this
  replace HZ := Lib.hid (HZ.out.drawn hd1 (by omega))
  have HD1 : Hid (Drawn w w1 p) := hd1.of_alloc
  have HC1 := Lib.hid hc1
  have hcp1 := ho1.capLe
  have HO1 := Lib.hid ho1.rd
  clear H hb0 ho1 hx1 hc1 hd1
  go_wp2_with fail
  refine (asGood_any a1 xs c1 _ HO1.out hcp1).mono ?_
  rintro e w2 ⟨rfl, hb2⟩
  replace HZ := Lib.hid (HZ.out.below hb2)
  replace HD1 := Lib.hid (HD1.out.below hb2)
  replace HC1 := Lib.hid (HC1.out.below hb2)
  replace HO1 := Lib.hid (HO1.out.below hb2)
  have hs2 := hb2.size
  clear hb2
  cases hA : ascB xs
  case' false =>
    go_wp2_with fail
    refine (orUpTo3_any _).mono ?_
    rintro e w3 ⟨a3, c3, rfl, ho3, hb3⟩
    replace HZ := Lib.hid (HZ.out.below hb3)
    replace HD1 := Lib.hid (HD1.out.below hb3)
    replace HC1 := Lib.hid (HC1.out.below hb3)
    have hs3 := hb3.size
    have HM : Hid (∀ W, Rd W a3 [0, 1, 2] → Calls Try.prog 112 #[.slice a3 3 c3] W fun e w' => ∃ a0 c0 vl, e = .returned (.agg #[.slice a0 (moK [0, 1, 2] 3).length c0]) ∧ RowsP w' W.heap.size (.slice a0 (moK [0, 1, 2] 3).length c0) vl (moK [0, 1, 2] 3) ∧ Below W.heap.size W w') := fun W h => maOf_any a3 [0, 1, 2] c3 W h (by decide)
    have hmr : (moK [0, 1, 2] 3).length ≤ 12 ∧ ∀ k, k < (moK [0, 1, 2] 3).length → (rowL (moK [0, 1, 2] 3) k).length = (moK [0, 1, 2] 3).length := moK_rows (xs := [0, 1, 2]) (by decide)
    have HR3 := Lib.hid ho3.rd
    generalize moK [0, 1, 2] 3 = xss at HM hmr
    clear hb3 ho3 HO1
    go_wp2_with fail
    refine (HM.out _ HR3.out).mono ?_
    clear HM HR3
  case' true =>
    obtain ⟨w3, hw3⟩ : ∃ x, x = w2 := ⟨_, rfl⟩
    subst hw3
    have hs3 : w1.heap.size ≤ w3.heap.size := hs2
    have HM := Lib.hid (fun W (h : Rd W a1 xs) => maOf_any a1 xs c1 W h hA)
    have hmr := moK_rows hA
    generalize moK xs xs.length = xss at HM hmr
    go_wp2_with fail
    refine (HM.out _ HO1.out).mono ?_
    clear HM HO1
  all_goals
    rintro e w4 ⟨a4, c4, vl, rfl, ho4, hb4⟩
    have HMR := Lib.hid hmr
    have hs4 := hb4.size
    have bb4 : Below w4.heap.size w4 (w4.alloc (.cells #[.slice a4 xss.length c4] 62)) := (by repeat (first | exact Below.refl _ _ | assumption | refine Below.alloc ?_ (by first | exact Nat.le_refl _ | (simp only [World.size_alloc, World.size_setCell, World.size_drew]; omega) | omega) _ | refine Below.setCell ?_ (by first | exact Nat.le_refl _ | (simp only [World.size_alloc, World.size_setCell, World.size_drew]; omega) | omega) _ | refine Below.drew ?_))
    have HK : Hid (MatK w p (L + 100) w4.heap.size a4 c4 vl xss (w4.alloc (.cells #[.slice a4 xss.length c4] 62))) :=
      ⟨(HZ.out.below hb4).below bb4, Var1.new w4 _ _, (ho4.mono (by omega)).below bb4 (Nat.le_refl _), (HC1.out.below hb4).below bb4, (HD1.out.below hb4).below bb4, hpw, by omega, fun g e => by have := ((ho4.cut (Nat.le_refl _)).1 g e).2; omega, fun k hk g e => by have := ((ho4.cut (Nat.le_refl _)).2 k hk g e).2; omega⟩
    obtain ⟨w5, hw5⟩ : ∃ x : World, x = w4.alloc (.cells #[.slice a4 xss.length c4] 62) := ⟨_, rfl⟩
    rw [← hw5] at HK
    have HW5 := Lib.hid hw5
    have hs5 : w5.heap.size = w4.heap.size + 1 := by rw [hw5]; simp
    clear hw5 bb4 ho4 hb4 hmr HZ HD1 HC1
    go_wp2_with fail
    rw [← HW5.out]
    clear HW5
    refine (pick_any p (L + 100) 14 _ HK.out.cu (by omega) (by omega)).mono ?_
    rintro e w6 ⟨r, rfl, hr0, hr1, hc6, hd6⟩
    have hs6 := hd6.size
    replace HK := Lib.hid (HK.out.drawn hd6 hc6)
    clear hc6 hd6
    by_cases h0 : r = 0
    · subst h0
      have ⟨⟨zm, cm⟩, fm⟩ := HK.out.m
      have ⟨⟨zz, cz⟩, fz⟩ := HK.out.z
      by_cases hl0 : 0 < xss.length
      · have l1 : (0 : Int) < (xss.length : Int) := by omega
        go_wp2_with fail
        refine (pick_any p (L + 102) (xss.length : Int) _ HK.out.cu (by omega) (by have := HMR.out.1; omega)).mono ?_
        rintro e w7 ⟨q, rfl, hq0, hq1, hc7, hd7⟩
        obtain ⟨i, rfl⟩ := Int.eq_ofNat_of_zero_le hq0
        have hi : i < xss.length := by omega
        have hs7 := hd7.size
        replace HK := Lib.hid (HK.out.drawn hd7 hc7)
        clear hc7 hd7 cm cz zm zz fm fz
        have hxl := HMR.out.1
        have HRL := Lib.hid (HMR.out.2 i hi)
        obtain ⟨g, ea, hg0, hg1, hcg, _⟩ := HK.out.r.outer hi
        subst ea
        obtain ⟨gr0, cr0, ev0, _⟩ := HK.out.put hi (j := 0) (by rw [HRL.out]; omega)
        rw [ev0, HRL.out] at hcg
        have HE0 := Lib.hid ev0
        clear ev0
        have hii : (i : Int) < (xss.length : Int) := by omega
        have hpw7 : p < w7.heap.size := HK.out.cu.lt
        have ⟨⟨zm, cm⟩, fm⟩ := HK.out.m
        go_wp2_with fail
        go_region_held3 (fun w' => w'.cell? ⟨w4.heap.size, 0, none⟩ = some (.slice (some ⟨g, 0, none⟩) xss.length c4) ∧ w'.cell? ⟨g, i, none⟩ = some (.slice (some ⟨gr0, 0, none⟩) xss.length cr0))
          (first | exact ⟨(by have h := (HP9.out (nth [-1, 0, 1, 12, 13] kk)).m.1.2; rw [setM_len] at h; exact h), mat_row (HP9.out (nth [-1, 0, 1, 12, 13] kk)) (by rw [setM_len]; exact hi) (by rw [setM_rlen hi]; exact HE0.out) (by rw [setM_rlen hi]; exact HRL.out)⟩ | exact ⟨KB.out.m.1.2, mat_row KB.out hi HE0.out HRL.out⟩ | exact ⟨KA.out.m.1.2, mat_row KA.out hi HE0.out HRL.out⟩ | go_keep)
          (first
            | (have _g := HP1; go_at_call 135; refine (among_any p (L + 106) (some ⟨wa.heap.size, 0, none⟩) [-1, 0, 1, 12, 13] 5 5 _ (KA.out.below ((Below.refl _ _).alloc (Nat.le_refl _) (.cells #[.int .i64 (-1), .int .i64 0, .int .i64 1, .int .i64 12, .int .i64 13] 3))).cu (by omega) (rd_lit5 wa (-1) 0 1 12 13 _) rfl (by omega) (by omega) (fun b off e => (by simp only [Option.some.injEq, Addr.mk.injEq] at e; omega))).mono ?_; rintro e wb ⟨kk, hkk, rfl, hcb, hdb⟩; have KB := Lib.hid ((KA.out.below ((Below.refl _ _).alloc (Nat.le_refl _) (.cells #[.int .i64 (-1), .int .i64 0, .int .i64 1, .int .i64 12, .int .i64 13] 3))).drawn hdb hcb); obtain ⟨gr, cr, ev, ⟨zz9, cib⟩, fib, HPb⟩ := KB.out.put hi hjr; rw [HE0.out] at ev; simp only [Value.slice.injEq, Option.some.injEq, Addr.mk.injEq, and_true, true_and] at ev; obtain ⟨rfl, rfl⟩ := ev; have HP9 := Lib.hid HPb; have vB := KB.out.m; have ⟨⟨zB, cB⟩, fB⟩ := vB; clear hcb hdb HPb)
            | (have _g := HP2; go_at_call 135; refine (among_any p (L + 106) (some ⟨w7.heap.size, 0, none⟩) [-1, 0, 1, 12, 13] 5 5 _ KA.out.cu (by omega) HP2.out rfl (by omega) (by omega) (fun b off e => (by simp only [Option.some.injEq, Addr.mk.injEq] at e; omega))).mono ?_; rintro e wb ⟨kk, hkk, rfl, hcb, hdb⟩; have KB := Lib.hid (KA.out.drawn hdb hcb); obtain ⟨gr, cr, ev, ⟨zz9, cib⟩, fib, HPb⟩ := KB.out.put hi hjr; rw [HE0.out] at ev; simp only [Value.slice.injEq, Option.some.injEq, Addr.mk.injEq, and_true, true_and] at ev; obtain ⟨rfl, rfl⟩ := ev; have HP9 := Lib.hid HPb; have vB := KB.out.m; have ⟨⟨zB, cB⟩, fB⟩ := vB; clear hcb hdb HPb)
            | (have _g := HP2; go_at_call 135; refine (among_any p (L + 106) (some ⟨w7.heap.size, 0, none⟩) [-1, 0, 1, 12, 13] 5 5 _ (KA.out.below (Joins.below_draws _ _ _)).cu (by omega) (HP2.out.below (Joins.below_draws _ _ _)) rfl (by omega) (by omega) (fun b off e => (by simp only [Option.some.injEq, Addr.mk.injEq] at e; omega))).mono ?_; rintro e wb ⟨kk, hkk, rfl, hcb, hdb⟩; have KB := Lib.hid ((KA.out.below (Joins.below_draws _ _ _)).drawn hdb hcb); obtain ⟨gr, cr, ev, ⟨zz9, cib⟩, fib, HPb⟩ := KB.out.put hi hjr; rw [HE0.out] at ev; simp only [Value.slice.injEq, Option.some.injEq, Addr.mk.injEq, and_true, true_and] at ev; obtain ⟨rfl, rfl⟩ := ev; have HP9 := Lib.hid HPb; have vB := KB.out.m; have ⟨⟨zB, cB⟩, fB⟩ := vB; clear hcb hdb HPb)
            | (go_at_call 75; refine (pick_any p (L + 104) (xss.length : Int) _ (HK.out.below (Joins.below_draws _ _ _)).cu (by omega) (by omega)).mono ?_; rintro e wa ⟨q, rfl, hq0, hq1, hca, hda⟩; obtain ⟨j, rfl⟩ := Int.eq_ofNat_of_zero_le hq0; have hjl : j < xss.length := (by omega); have hjr : j < (rowL xss i).length := (by rw [HRL.out]; exact hjl); have hjk : (j : Int) < (xss.length : Int) := (by omega); have KA := Lib.hid ((HK.out.below (Joins.below_draws _ _ _)).drawn hda hca); have hsa : w7.heap.size ≤ wa.heap.size := (by have := hda.size; simp at this; omega); have HP1 := Lib.hid hsa; clear hca hda hq0 hq1)
            | (go_at_call 75; refine (pick_any p (L + 104) (xss.length : Int) _ (HK.out.below ((Below.refl w7.heap.size w7).alloc (Nat.le_refl _) (.cells #[.int .i64 (-1), .int .i64 0, .int .i64 1, .int .i64 12, .int .i64 13] 3))).cu (by omega) (by omega)).mono ?_; rintro e wa ⟨q, rfl, hq0, hq1, hca, hda⟩; obtain ⟨j, rfl⟩ := Int.eq_ofNat_of_zero_le hq0; have hjl : j < xss.length := (by omega); have hjr : j < (rowL xss i).length := (by rw [HRL.out]; exact hjl); have hjk : (j : Int) < (xss.length : Int) := (by omega); have KA := Lib.hid ((HK.out.below ((Below.refl w7.heap.size w7).alloc (Nat.le_refl _) (.cells #[.int .i64 (-1), .int .i64 0, .int .i64 1, .int .i64 12, .int .i64 13] 3))).drawn hda hca); have hsa : w7.heap.size ≤ wa.heap.size := (by have := hda.size; simp at this; omega); have HP2 := Lib.hid ((rd_lit5 w7 (-1) 0 1 12 13 3).drawn hda (fun b off e => (by simp only [Option.some.injEq, Addr.mk.injEq] at e; omega))); clear hca hda hq0 hq1)
            | (go_at_call 75; refine (pick_any p (L + 104) (xss.length : Int) _ (HK.out.below (((Below.refl w7.heap.size w7).alloc (Nat.le_refl _) (.cells #[.int .i64 (-1), .int .i64 0, .int .i64 1, .int .i64 12, .int .i64 13] 3)).trans (Joins.below_draws _ _ _))).cu (by omega) (by omega)).mono ?_; rintro e wa ⟨q, rfl, hq0, hq1, hca, hda⟩; obtain ⟨j, rfl⟩ := Int.eq_ofNat_of_zero_le hq0; have hjl : j < xss.length := (by omega); have hjr : j < (rowL xss i).length := (by rw [HRL.out]; exact hjl); have hjk : (j : Int) < (xss.length : Int) := (by omega); have KA := Lib.hid ((HK.out.below (((Below.refl w7.heap.size w7).alloc (Nat.le_refl _) (.cells #[.int .i64 (-1), .int .i64 0, .int .i64 1, .int .i64 12, .int .i64 13] 3)).trans (Joins.below_draws _ _ _))).drawn hda hca); have hsa : w7.heap.size ≤ wa.heap.size := (by have := hda.size; simp at this; omega); have HP2 := Lib.hid (((rd_lit5 w7 (-1) 0 1 12 13 3).below (Joins.below_draws _ _ _)).drawn hda (fun b off e => (by simp only [Option.some.injEq, Addr.mk.injEq] at e; omega))); clear hca hda hq0 hq1))
        all_goals
          have HP := HP9.out (nth [-1, 0, 1, 12, 13] kk)
          have ⟨⟨zm9, cm9⟩, fm9⟩ := HP.m
          have ⟨⟨zz9, cz9⟩, fz9⟩ := HP.z
          rw [setM_len] at cm9
          have R3 := HP.done (by rw [setM_len]; omega) (fun k hk => by rw [setM_rlen hi]; rw [setM_len] at hk; have := HMR.out.2 k hk; omega)
          rw [setM_len] at R3
          have HR3 := Lib.hid R3
          clear HP R3 KB cm
          generalize (nth [-1, 0, 1, 12, 13] kk) = zv at *
          go_wp2_with fail
          have R3 := HR3.out
          refine bodyPost_ret (v := .agg #[.slice (some ⟨g, 0, none⟩) xss.length c4]) (by have ⟨⟨⟨_, q1⟩, _⟩, _⟩ := R3; simp [results, Try.results120, go_sem, q1]) rfl ?_
          obtain ⟨_, a', c', xss', e', g1, g2, g3, g4, g5⟩ := R3
          exact ⟨a', c', xss', e', g1, g2, g3, g4.mono (by omega), g5⟩
      · have l1 : ¬ (0 : Int) < (xss.length : Int) := by omega
        go_wp2_with fail
        have R3 := (HK.out.done (by have := HMR.out.1; omega) (fun k hk => by have h8 := HMR.out.1; have := HMR.out.2 k hk; omega))
        refine bodyPost_ret (v := .agg #[.slice a4 xss.length c4]) (by have ⟨⟨⟨_, q1⟩, _⟩, _⟩ := R3; simp [results, Try.results120, go_sem, q1]) rfl ?_
        obtain ⟨_, a', c', xss', e', g1, g2, g3, g4, g5⟩ := R3
        exact ⟨a', c', xss', e', g1, g2, g3, g4.mono (by omega), g5⟩
    · have z0 : (r == 0) = false := by simpa using h0
      by_cases h1 : r = 1
      · subst h1
        have ⟨⟨zm, cm⟩, fm⟩ := HK.out.m
        have ⟨⟨zz, cz⟩, fz⟩ := HK.out.z
        have hxl := HMR.out.1
        have hrow : OwnI (w6.alloc (.cells #[.int .i64 1] 3)) w6.heap.size (.slice (some ⟨w6.heap.size, 0, none⟩) 1 1) [1] := OwnI.new w6 [1] (by simp)
        have bb6 : Below w6.heap.size w6 (w6.alloc (.cells #[.int .i64 1] 3)) := (by repeat (first | exact Below.refl _ _ | assumption | refine Below.alloc ?_ (by first | exact Nat.le_refl _ | (simp only [World.size_alloc, World.size_setCell, World.size_drew]; omega) | omega) _ | refine Below.setCell ?_ (by first | exact Nat.le_refl _ | (simp only [World.size_alloc, World.size_setCell, World.size_drew]; omega) | omega) _ | refine Below.drew ?_))
        have hro := HK.out.r.below bb6 (Nat.le_refl _)
        have hcut := HK.out.r.cut (Nat.le_refl w6.heap.size)
        have hbm := HK.out.m.1.1
        have hsz : (w6.alloc (.cells #[.int .i64 1] 3)).heap.size = w6.heap.size + 1 := by simp
        have HK6 := Lib.hid (HK.out.below bb6)
        go_wp2_with (at_builtin; refine push_rowAt (v := .slice a4 xss.length c4) (vl := vl) (xss := xss) (B := w.heap.size + 1) (C := w6.heap.size) (ar := some ⟨w6.heap.size, 0, none⟩) (n := 1) (cp := 1) (r := [1]) (wr := w6.alloc (.cells #[.int .i64 1] 3)) rfl _ _ rfl rfl hro hrow (w6.heap.size + 1) hsz rfl (by omega) (by omega) (by simp) (fun c e => (hcut.1 c e).2) (fun k hk c e => (hcut.2 k hk c e).2) ?_; intro v7 w7 hr7 hg7 hat7; revert hat7)
        intro hat7
        obtain ⟨a7, c7, e7⟩ := hr7.o.form
        subst e7
        have hl7 : (xss ++ [[1]]).length = xss.length + 1 := by simp
        have hnb := HK6.out.nb
        have hvl := HK6.out.r.o.vlen
        have hlo := HK6.out.r.lo (p := w.heap.size) (by omega)
        have hm7 := HK6.out.m.kept hg7 (fun e => hnb.1 _ e.symm rfl)
        have hz7 := HK6.out.z.kept hg7 (fun e => hlo.1 _ e.symm rfl)
        have hc7 := HK6.out.cu.kept hg7 (fun g e => by have := ((HK6.out.r.cut (Nat.le_refl _)).1 g e).1; omega)
        have hd7 := HK6.out.d.grown hg7 (fun c e => by have := ((HK6.out.r.cut (Nat.le_refl _)).1 c e).1; omega)
        have hr8 : ∀ x, RowsP (w7.setCell ⟨w4.heap.size, 0, none⟩ x) (w.heap.size + 1) (.slice a7 (xss ++ [[1]]).length c7) (vl ++ [.slice (some ⟨w6.heap.size, 0, none⟩) 1 1]) (xss ++ [[1]]) := fun x => hr7.kept (grown_set w7 ⟨w4.heap.size, 0, none⟩ x) (fun c e e2 => by
            simp only [Option.some.injEq] at e2
            rcases hat7 with h | h
            · rw [h] at e; exact hnb.1 c e e2.symm
            · rw [h] at e; simp only [Option.some.injEq] at e; omega) (fun k hk c e e2 => by
            simp only [Option.some.injEq] at e2
            by_cases hkl : k < xss.length
            · have e3 : valAt (vl ++ [.slice (some ⟨w6.heap.size, 0, none⟩) 1 1]) k = valAt vl k := by simp [valAt, List.getD_eq_getElem?_getD, List.getElem?_append_left (show k < vl.length by omega)]
              rw [e3] at e
              exact hnb.2 k hkl c e e2.symm
            · have e3 : valAt (vl ++ [.slice (some ⟨w6.heap.size, 0, none⟩) 1 1]) k = .slice (some ⟨w6.heap.size, 0, none⟩) 1 1 := by simp [valAt, List.getD_eq_getElem?_getD, List.getElem?_append_right (show vl.length ≤ k by omega), show k - vl.length = 0 by omega]
              rw [e3] at e
              simp only [Value.ownBlock, Option.some.injEq] at e
              omega)
        have hrl : ∀ k, k < (xss ++ [[1]]).length → (rowL (xss ++ [[1]]) k).length ≤ 20 := fun k hk => by
          by_cases hkl : k < xss.length
          · have e3 : rowL (xss ++ [[1]]) k = rowL xss k := by simp [rowL, List.getD_eq_getElem?_getD, List.getElem?_append_left hkl]
            rw [e3]; have := HMR.out.2 k hkl; omega
          · have e3 : rowL (xss ++ [[1]]) k = [1] := by simp [rowL, List.getD_eq_getElem?_getD, List.getElem?_append_right (show xss.length ≤ k by omega), show k - xss.length = 0 by omega]
            rw [e3]; simp
        have R3 := mat_end (a := a7) (c := c7) (xss := xss ++ [[1]]) (hz7.other (p := ⟨w4.heap.size, 0, none⟩) (.slice a7 (xss ++ [[1]]).length c7) (show w.heap.size ≠ w4.heap.size by omega)) ⟨a7, c7, vl ++ [.slice (some ⟨w6.heap.size, 0, none⟩) 1 1], xss ++ [[1]], (hr8 (.slice a7 (xss ++ [[1]]).length c7)).setBelow (p := ⟨w.heap.size, 0, none⟩) (show w.heap.size < w.heap.size + 1 by omega) _, .inl ⟨rfl, rfl⟩⟩ (by omega) (tot_fine hrl (by omega)) (hc7.set ⟨w4.heap.size, 0, none⟩ _ (show p < w4.heap.size by omega)) (hd7.set ⟨w4.heap.size, 0, none⟩ _ (show w.heap.size ≤ w4.heap.size by omega)) hpw
        have HR3 := Lib.hid R3
        rw [hl7] at HR3
        have ⟨⟨zm7, cm7⟩, fm7⟩ := hm7
        have ⟨⟨zz7, cz7⟩, fz7⟩ := hz7
        have ⟨⟨zz8, cz8⟩, fz8⟩ := hz7.other (p := ⟨w4.heap.size, 0, none⟩) (.slice a7 (xss.length + 1) c7) (show w.heap.size ≠ w4.heap.size by omega)
        clear R3 hrl hr8 hm7 hz7 hc7 hd7 hnb hlo hg7 hat7 hr7 hro hrow hcut cm cz zm zz fm fz
        go_wp2_with fail
        have R3 := HR3.out
        refine bodyPost_ret (v := .agg #[.slice a7 (xss.length + 1) c7]) (by have ⟨⟨⟨_, q1⟩, _⟩, _⟩ := R3; simp [results, Try.results120, go_sem, q1]) rfl ?_
        obtain ⟨_, a', c', xss', e', g1, g2, g3, g4, g5⟩ := R3
        exact ⟨a', c', xss', e', g1, g2, g3, g4.mono (by omega), g5⟩
      · have z1 : (r == 1) = false := by simpa using h1
        by_cases h2 : r = 2
        · subst h2
          have ⟨⟨zm, cm⟩, fm⟩ := HK.out.m
          have ⟨⟨zz, cz⟩, fz⟩ := HK.out.z
          by_cases hl1 : 1 < xss.length
          · have l1 : (1 : Int) < (xss.length : Int) := by omega
            obtain ⟨g, ea, hg0, hg1, _, _⟩ := HK.out.r.outer (k := 0) (by omega)
            subst ea
            have hcp := rows_cap HK.out.r
            have hxl := HMR.out.1
            have hlen : (xss.drop 1).length = xss.length - 1 := by simp
            go_wp2_with fail
            have hZ2 := HK.out.z.other (p := ⟨w4.heap.size, 0, none⟩) (.slice (some ⟨g, 1, none⟩) (xss.length - 1) (c4 - 1)) (show w.heap.size ≠ w4.heap.size by omega)
            have hC2 := HK.out.cu.set ⟨w4.heap.size, 0, none⟩ (.slice (some ⟨g, 1, none⟩) (xss.length - 1) (c4 - 1)) (show p < w4.heap.size by omega)
            have hD2 := HK.out.d.set ⟨w4.heap.size, 0, none⟩ (.slice (some ⟨g, 1, none⟩) (xss.length - 1) (c4 - 1)) (show w.heap.size ≤ w4.heap.size by omega)
            have hbx := HK.out.box (.slice (some ⟨g, 1, none⟩) (xss.length - 1) (c4 - 1))
            have R3 := mat_end (a := some ⟨g, 1, none⟩) (c := c4 - 1) (xss := xss.drop 1) hZ2 ⟨some ⟨g, 0, none⟩, c4, vl, xss, hbx.setBelow (p := ⟨w.heap.size, 0, none⟩) (show w.heap.size < w.heap.size + 1 by omega) _, .inr ⟨g, rfl, rfl, rfl⟩⟩ (by omega) (tot_fine (fun k hk => by have := HMR.out.2 (k+1) (by omega); have h9 : rowL (xss.drop 1) k = rowL xss (k + 1) := (by simp [rowL, Nat.add_comm 1 k]); rw [h9]; omega) (by omega)) hC2 hD2 hpw
            rw [hlen] at R3
            refine bodyPost_ret (v := .agg #[.slice (some ⟨g, 1, none⟩) (xss.length - 1) (c4 - 1)]) (by have ⟨⟨⟨_, q1⟩, _⟩, _⟩ := R3; simp [results, Try.results120, go_sem, q1]) rfl ?_
            obtain ⟨_, a', c', xss', e', g1, g2, g3, g4, g5⟩ := R3
            exact ⟨a', c', xss', e', g1, g2, g3, g4.mono (by omega), g5⟩
          · have l1 : ¬ (1 : Int) < (xss.length : Int) := by omega
            go_wp2_with fail
            have R3 := (HK.out.done (by have := HMR.out.1; omega) (fun k hk => by have h8 := HMR.out.1; have := HMR.out.2 k hk; omega))
            refine bodyPost_ret (v := .agg #[.slice a4 xss.length c4]) (by have ⟨⟨⟨_, q1⟩, _⟩, _⟩ := R3; simp [results, Try.results120, go_sem, q1]) rfl ?_
            obtain ⟨_, a', c', xss', e', g1, g2, g3, g4, g5⟩ := R3
            exact ⟨a', c', xss', e', g1, g2, g3, g4.mono (by omega), g5⟩
        · have z2 : (r == 2) = false := by simpa using h2
          have ⟨⟨zm, cm⟩, fm⟩ := HK.out.m
          have ⟨⟨zz, cz⟩, fz⟩ := HK.out.z
          go_wp2_with fail
          have R3 := (HK.out.done (by have := HMR.out.1; omega) (fun k hk => by have h8 := HMR.out.1; have := HMR.out.2 k hk; omega))
          refine bodyPost_ret (v := .agg #[.slice a4 xss.length c4]) (by have ⟨⟨⟨_, q1⟩, _⟩, _⟩ := R3; simp [results, Try.results120, go_sem, q1]) rfl ?_
          obtain ⟨_, a', c', xss', e', g1, g2, g3, g4, g5⟩ := R3
          exact ⟨a', c', xss', e', g1, g2, g3, g4.mono (by omega), g5⟩

/-- a matrix that a law draws -/
def DrawnM (w : World) (e : Ending) (w' : World) : Prop :=
  ∃ (a : Option Addr) (c : Nat) (xss : List (List Int)), e = .returned (.agg #[.slice a xss.length c]) ∧ RdC w' a xss ∧ xss.length + totS xss xss.length ≤ 1048576 ∧ Below w.heap.size w w'

set_option maxRecDepth 100000 in
theorem drMtMx_any (a : Option Addr) (n cap : Nat) (w : World) (hR : RdB w a n) (hn : n ≤ 1048576) :
    Calls Try.prog 56 #[.slice a n cap] w (DrawnM w) := by
  have ba : Below w.heap.size w (w.alloc (.cells #[.slice none 0 0] 62)) := (by repeat (first | exact Below.refl _ _ | assumption | refine Below.alloc ?_ (by first | exact Nat.le_refl _ | (simp only [World.size_alloc, World.size_setCell, World.size_drew]; omega) | omega) _ | refine Below.setCell ?_ (by first | exact Nat.le_refl _ | (simp only [World.size_alloc, World.size_setCell, World.size_drew]; omega) | omega) _ | refine Below.drew ?_))
  go_enter Try.func56, Try.ntmps56
  go_wp2_with fail
  have hcur := cur_new (w := w.alloc (.cells #[.slice none 0 0] 62)) (cap := cap) (t := 80) (hR.below ba) hn
  rw [World.size_alloc] at hcur
  refine (matrix_any (w.heap.size + 1) 0 9 _ hcur (by omega) (by omega)).mono ?_
  rintro e w1 ⟨a1, c1, xss, rfl, hx1, hl1, ht1, hc1, hd1⟩
  have b1 : Below (w.heap.size + 1) (w.alloc (.cells #[.slice none 0 0] 62)) w1 := hd1.of_alloc.bel (Nat.le_refl _) (by simp)
  have hz1 : Var1 w1 w.heap.size (.slice none 0 0) := (Var1.new w (.slice none 0 0) 62).below (by simpa using b1)
  have HX1 := Lib.hid ((hx1.kept (grown_set w1 ⟨w.heap.size, 0, none⟩ (.slice a1 xss.length c1)) (by simp; omega)).rdC)
  have HB1 := Lib.hid ((ba.trans (b1.mono (by omega))).setCell (p := ⟨w.heap.size, 0, none⟩) (Nat.le_refl _) (.slice a1 xss.length c1))
  have HZ := Lib.hid (hz1.set (.slice a1 xss.length c1))
  have ⟨⟨zz, cz⟩, fz⟩ := hz1
  clear hx1 hc1 hd1 hcur b1 ba
  go_wp2_with fail
  have R3 := HZ.out
  refine bodyPost_ret (v := .agg #[.slice a1 xss.length c1]) (by have ⟨⟨_, q1⟩, _⟩ := R3; simp [results, Try.results56, go_sem, q1]) rfl ?_
  exact ⟨a1, c1, xss, rfl, HX1.out, ht1, HB1.out⟩

def eqL (xs ys : List Int) : Bool := decide (xs = ys)
theorem eqL_self (xs : List Int) : eqL xs xs = true := by simp [eqL]

theorem pSame_any (a b : Option Addr) (xs ys : List Int) (ca cb : Nat) (w : World) (hx : Rd w a xs) (hy : Rd w b ys) :
    Calls Try.prog 13 #[.slice a xs.length ca, .slice b ys.length cb] w fun e w' => e = .returned (.bool (eqL xs ys)) ∧ Below w.heap.size w w' := by
  have hlx := hx.len
  have hly := hy.len
  by_cases hl : xs.length = ys.length
  · have hl' : ((xs.length : Int) != (ys.length : Int)) = false := by simp [hl]
    go_enter Try.func13, Try.ntmps13
    have HL := Lib.hid hl
    clear hl
    go_wp2_with fail
    go_loopw [13] (fun i wr => ∃ k : Nat, k ≤ xs.length ∧ i = .int .i64 k ∧ xs.take k = ys.take k ∧ Below w.heap.size w wr) (fun i _ => xs.length - (intOf i).toNat)
    case atStart => exact ⟨0, Nat.zero_le _, rfl, rfl, Below.refl _ _⟩
    case round =>
      obtain ⟨k, hk, rfl, htk, hb⟩ := hrel
      have HT := Lib.hid htk
      clear htk
      by_cases hlt : k < xs.length
      · have hlt' : k < ys.length := by rw [← HL.out]; exact hlt
        obtain ⟨b1, o1, rfl, hb1, hc1⟩ := (hx.below hb).cell k hlt
        obtain ⟨b2, o2, rfl, hb2, hc2⟩ := (hy.below hb).cell k hlt'
        have k1 : (k : Int) < (xs.length : Int) := by omega
        have k2 : (k : Int) < (ys.length : Int) := by omega
        by_cases he : nth xs k = nth ys k
        · have he' : (nth xs k != nth ys k) = false := by simp [he]
          have HE := Lib.hid he
          clear he
          go_wp2_with fail
          go_quiet (fail)
          go_wp2_with fail
          go_roundw
          case rel =>
            refine ⟨k + 1, by omega, by go_num, ?_, by exact hb.trans (Joins.below_draws _ _ _)⟩
            rw [List.take_succ_eq_append_getElem hlt, List.take_succ_eq_append_getElem hlt', HT.out, ← nth_get, ← nth_get, HE.out]
          case measure => simp [intOf]; omega
        · have he' : (nth xs k != nth ys k) = true := by simp [he]
          have hne : eqL xs ys = false := by
            simp only [eqL, decide_eq_false_iff_not]
            intro e
            subst e
            exact he rfl
          have HN := Lib.hid hne
          clear he hne
          go_wp2_with fail
          go_quiet (fail)
          go_wp2_with fail
          go_ret
          exact ⟨ret_bool HN.out.symm, hb.trans (Joins.below_draws _ _ _)⟩
      · go_wp2_with fail
        go_ret
        refine ⟨ret_bool ?_, hb⟩
        have h1 := HT.out
        rw [List.take_of_length_le (by omega), List.take_of_length_le (by rw [← HL.out]; omega)] at h1
        simp [eqL, h1]
  · have hl' : ((xs.length : Int) != (ys.length : Int)) = true := by simp; omega
    have hne : eqL xs ys = false := by
      simp only [eqL, decide_eq_false_iff_not]
      intro e
      exact hl (by rw [e])
    have HN := Lib.hid hne
    clear hl hne
    go_enter Try.func13, Try.ntmps13
    go_wp2_with fail
    go_ret
    exact ⟨ret_bool HN.out.symm, Below.refl _ _⟩

set_option maxRecDepth 100000 in
theorem pSameM_same (a b : Option Addr) (xss : List (List Int)) (ca cb : Nat) (w : World) (hx : RdC w a xss) (hy : RdC w b xss) (hn : xss.length ≤ 1048576) :
    Calls Try.prog 49 #[.agg #[.slice a xss.length ca], .agg #[.slice b xss.length cb]] w fun e w' => e = .returned (.bool true) ∧ Below w.heap.size w w' := by
  have b1 : Below w.heap.size w ((w.alloc (.cells #[.slice a xss.length ca] 62)).alloc (.cells #[.slice b xss.length cb] 62)) := (by repeat (first | exact Below.refl _ _ | assumption | refine Below.alloc ?_ (by first | exact Nat.le_refl _ | (simp only [World.size_alloc, World.size_setCell, World.size_drew]; omega) | omega) _ | refine Below.setCell ?_ (by first | exact Nat.le_refl _ | (simp only [World.size_alloc, World.size_setCell, World.size_drew]; omega) | omega) _ | refine Below.drew ?_))
  have HX := Lib.hid (hx.below b1)
  have HY := Lib.hid (hy.below b1)
  have HB := Lib.hid b1
  clear hx hy b1
  go_enter Try.func49, Try.ntmps49
  go_wp2_with fail
  obtain ⟨w1, hw1⟩ : ∃ x : World, x = (w.alloc (.cells #[.slice a xss.length ca] 62)).alloc (.cells #[.slice b xss.length cb] 62) := ⟨_, rfl⟩
  have hA : w.heap.size < w1.heap.size ∧ w1.cell? ⟨w.heap.size, 0, none⟩ = some (.slice a xss.length ca) := by rw [hw1]; exact ⟨by simp; omega, by simp⟩
  have hB : w.heap.size + 1 < w1.heap.size ∧ w1.cell? ⟨w.heap.size + 1, 0, none⟩ = some (.slice b xss.length cb) := by rw [hw1]; exact ⟨by simp, by simp⟩
  rw [← hw1] at HX HY HB ⊢
  have HA := Lib.hid hA
  have HC := Lib.hid hB
  clear hw1 hA hB
  go_loopw [16] (fun i wr => ∃ k : Nat, k ≤ xss.length ∧ i = .int .i64 k ∧ Below w1.heap.size w1 wr) (fun i _ => xss.length - (intOf i).toNat)
  case atStart => exact ⟨0, Nat.zero_le _, rfl, Below.refl _ _⟩
  case round =>
    obtain ⟨k, hk, rfl, hb⟩ := hrel
    by_cases hlt : k < xss.length
    · have k1 : (k : Int) < (xss.length : Int) := by omega
      have HT := Lib.hid hb
      have cA := (hb.cell (p := ⟨w.heap.size, 0, none⟩) HA.out.1).trans HA.out.2
      have cB := (hb.cell (p := ⟨w.heap.size + 1, 0, none⟩) HC.out.1).trans HC.out.2
      obtain ⟨g1, o1, a1, c1, rfl, hg1, hc1, hr1, hl1⟩ := (HX.out.below hb).row hlt
      obtain ⟨g2, o2, a2, c2, rfl, hg2, hc2, hr2, hl2⟩ := (HY.out.below hb).row hlt
      have HR1 := Lib.hid hr1
      have HR2 := Lib.hid hr2
      generalize rowL xss k = R at *
      have HEQ : Hid (eqL R R = true) := by simp [Hid, eqL]
      have h9a := hb.size
      clear hb hr1 hr2
      go_wp2_with fail
      go_region_held3 (fun w' => w'.cell? ⟨w.heap.size, 0, none⟩ = some (.slice (some ⟨g1, o1, none⟩) xss.length ca) ∧ w'.cell? ⟨w.heap.size + 1, 0, none⟩ = some (.slice (some ⟨g2, o2, none⟩) xss.length cb) ∧ w'.cell? ⟨g1, o1 + k, none⟩ = some (.slice a1 R.length c1) ∧ w'.cell? ⟨g2, o2 + k, none⟩ = some (.slice a2 R.length c2))
        (first | exact ⟨qA, qB, qC, qD⟩ | go_keep)
        (first | (go_at_call 13; refine (pSame_any a1 a2 R R c1 c2 _ (HR1.out.below (Joins.below_draws _ _ _)) (HR2.out.below (Joins.below_draws _ _ _))).mono ?_; rw [HEQ.out]; rintro e w5 ⟨rfl, hb5⟩; have ht5 : Below wr.heap.size wr w5 := (Joins.below_draws _ _ _).trans hb5; have qA := (ht5.cell (p := ⟨w.heap.size, 0, none⟩) (show w.heap.size < wr.heap.size by have := HA.out.1; omega)).trans cA; have qB := (ht5.cell (p := ⟨w.heap.size + 1, 0, none⟩) (show w.heap.size + 1 < wr.heap.size by have := HC.out.1; omega)).trans cB; have qC := (ht5.cell (p := ⟨g1, o1 + k, none⟩) hg1).trans hc1; have qD := (ht5.cell (p := ⟨g2, o2 + k, none⟩) hg2).trans hc2))
      go_wp2_with fail
      go_roundw
      case rel => exact ⟨k + 1, by omega, by go_num, HT.out.trans (ht5.mono HT.out.size)⟩
      case measure => simp [intOf]; omega
    · obtain rfl : k = xss.length := by omega
      go_wp2_with fail
      go_ret
      exact ⟨rfl, HB.out.trans (hb.mono HB.out.size)⟩

/-- are the two inputs together within the bound? -/
theorem big_any (a b : Option Addr) (n m c1 c2 : Nat) (w : World) (hn : n ≤ 9223372036854775807) (hm : m ≤ 9223372036854775807) :
    Calls Try.prog 9 #[.slice a n c1, .slice b m c2] w fun e w' => ((e = .returned (.bool true)) ∨ (e = .returned (.bool false) ∧ n ≤ 1048576 ∧ m ≤ 1048576)) ∧ w = w' := by
  by_cases h1 : 1048576 < (n : Int)
  · go_enter Try.func9, Try.ntmps9
    go_wp2_with fail
    go_ret
    exact ⟨.inl rfl, rfl⟩
  · by_cases h2 : 1048576 - (n : Int) < (m : Int)
    · go_enter Try.func9, Try.ntmps9
      go_wp2_with fail
      go_ret
      exact ⟨.inl rfl, rfl⟩
    · have h9 : n ≤ 1048576 ∧ m ≤ 1048576 := by omega
      go_enter Try.func9, Try.ntmps9
      go_wp2_with fail
      go_ret
      first | exact ⟨.inr ⟨rfl, h9.1, h9.2⟩, rfl⟩ | exact ⟨.inr rfl, rfl⟩

theorem infoIntS : (Try.prog.info? 24).map (fun i => (i.zero, i.size, i.bytes)) = some (some (.slice none 0 0), 1, 24) := by kernel_rfl
theorem sset_step (vl : List Value) (n k : Nat) (v z : Value) (hk : vl.length = k) (h : k < n) :
    (vl ++ List.replicate (n - k) z).set k v = (vl ++ [v]) ++ List.replicate (n - (k+1)) z := by
  rw [List.set_append_right _ _ (by omega), hk, Nat.sub_self, List.append_assoc]
  congr 1
  rw [show n - k = (n - (k+1)) + 1 by omega, List.replicate_succ, List.set_cons_zero]
  rfl
theorem valAt_app {vl : List Value} {v : Value} {k : Nat} (h : k < vl.length) : valAt (vl ++ [v]) k = valAt vl k := by
  simp [valAt, List.getElem?_append, h]
theorem valAt_last (vl : List Value) (v : Value) : valAt (vl ++ [v]) vl.length = v := by
  simp [valAt]

theorem below_grown_none {w w' : World} {B : Nat} (h : w.grownBy w' none) (hB : B ≤ w.heap.size) : Below B w w' :=
  below_of_grown (v := .slice none 0 0) h (fun b e => by simp [Value.ownBlock] at e) hB

/-- a new row has been put into rows that have been made -/
theorem RowsP.putRow {w : World} {B : Nat} {v u : Value} {vl : List Value} {xss : List (List Int)} {r : List Int} (h : RowsP w B v vl xss) {k : Nat} (hk : k < xss.length) (hu : OwnI w B u r) (hne : ∀ c, u.ownBlock = some c → v.ownBlock ≠ some c ∧ ∀ j, j < xss.length → j ≠ k → (valAt vl j).ownBlock ≠ some c) :
    ∃ g c, v = .slice (some ⟨g, 0, none⟩) xss.length c ∧ B ≤ g ∧ g < w.heap.size ∧ (∃ z, w.cell? ⟨g, k, none⟩ = some z) ∧ w.frozen? ⟨g, k, none⟩ = false ∧ RowsP (w.setCell ⟨g, k, none⟩ u) B v (vl.set k u) (xss.set k r) := by
  have hl := h.o.vlen
  rcases h.o.own.2 with ⟨e, h0⟩ | ⟨g, cap3, cur, e, hb, hg, _⟩
  · omega
  · subst e
    have h1 := World.ownsRow.cellAt h.o.own k (by omega)
    have hgr := grown_set w ⟨g, k, none⟩ u
    have hval : ∀ j, valAt (vl.set k u) j = if j = k then u else valAt vl j := by
      intro j
      simp only [valAt, List.getD_eq_getElem?_getD, List.getElem?_set]
      by_cases e : k = j
      · subst e; simp [show k < vl.length by omega]
      · simp [e, Ne.symm e]
    have hrow : ∀ j, j < xss.length → rowL (xss.set k r) j = if j = k then r else rowL xss j := by
      intro j hj
      simp only [rowL, List.getD_eq_getElem?_getD, List.getElem?_set]
      by_cases e : k = j
      · subst e; simp [hk]
      · simp [e, Ne.symm e]
    refine ⟨g, cap3, rfl, hb, (Array.getElem?_eq_some_iff.1 hg).1, ⟨_, by rw [h1, valAt_get (by omega)]⟩, World.ownsRow.frozenAt h.o.own k, ⟨⟨?_, fun j hj => ?_, fun j hj c hc => ?_⟩, fun i j hij hj c hc => ?_⟩⟩
    · rw [List.length_set]
      exact (World.ownsRow.stored h.o.own k u).1
    · rw [List.length_set] at hj
      rw [hval, hrow j hj]
      by_cases e : j = k
      · rw [if_pos e, if_pos e]
        exact hu.kept hgr (own_nb (fun c h1 h2 => (hne c h1).1 (by rw [h2]; rfl)))
      · rw [if_neg e, if_neg e]
        exact (h.o.row j hj).kept hgr (own_nb (fun c h1 h2 => h.o.apart j hj c h1 (by rw [h2]; rfl)))
    · rw [List.length_set] at hj
      rw [hval] at hc
      by_cases e : j = k
      · rw [if_pos e] at hc; exact (hne c hc).1
      · rw [if_neg e] at hc; exact h.o.apart j hj c hc
    · rw [List.length_set] at hj
      rw [hval] at hc ⊢
      by_cases e : j = k
      · rw [if_pos e]
        rw [if_neg (by omega)] at hc
        intro h2
        exact (hne c h2).2 i (by omega) (by omega) hc
      · rw [if_neg e]
        by_cases e2 : i = k
        · rw [if_pos e2] at hc
          exact (hne c hc).2 j hj e
        · rw [if_neg e2] at hc
          exact h.pair i j hij hj c hc
theorem infoRow0 : (Try.prog.info? 24).map (fun i => (i.zero, i.size, i.bytes)) = some (some (.slice none 0 0), 1, 24) := by kernel_rfl
/-- the rows of nil that a make has made -/
theorem RowsP.made {w : World} {B n : Nat} {g : Nat} (h : w.ownsRow B 24 1 (.slice (some ⟨g, 0, none⟩) n n) n (List.replicate n (.slice none 0 0))) : RowsP w B (.slice (some ⟨g, 0, none⟩) n n) (List.replicate n (.slice none 0 0)) (List.replicate n []) := by
  have hv : ∀ k, k < n → valAt (List.replicate n (.slice none 0 0)) k = .slice none 0 0 := fun k hk => by simp [valAt, List.getD_eq_getElem?_getD, hk]
  refine ⟨⟨by rw [List.length_replicate]; exact h, fun k hk => ?_, fun k hk c hc => ?_⟩, fun j k hjk hk c hc => ?_⟩
  · rw [List.length_replicate] at hk
    rw [hv k hk]
    have : rowL (List.replicate n []) k = [] := by simp [rowL, hk]
    rw [this]
    exact OwnI.nil _ _
  · rw [List.length_replicate] at hk
    rw [hv k hk] at hc
    cases hc
  · rw [List.length_replicate] at hk
    rw [hv j (by omega)] at hc
    cases hc
/-- k rows of zeros, and rows of nil behind them -/
def zTo (n k : Nat) : List (List Int) := (List.range n).map fun i => if i < k then List.replicate n 0 else []
theorem zTo_len (n k : Nat) : (zTo n k).length = n := by simp [zTo]
theorem zTo_row {n k i : Nat} (h : i < n) : rowL (zTo n k) i = if i < k then List.replicate n 0 else [] := by simp [zTo, rowL, h]
theorem zTo_zero (n : Nat) : zTo n 0 = List.replicate n [] := by
  refine rows_ext (by simp [zTo]) (fun i hi => ?_)
  rw [zTo_len] at hi
  rw [zTo_row hi]
  simp [rowL, hi]
theorem zTo_end (n : Nat) : zTo n n = sqM (fun _ _ => 0) n n := by
  refine rows_ext (by rw [zTo_len, sqM_len]) (fun i hi => ?_)
  rw [zTo_len] at hi
  rw [zTo_row hi, sqM_row hi, if_pos hi]
  apply List.ext_getElem?
  intro j
  by_cases h : j < n <;> simp [fmap, h]
theorem zTo_step {n k : Nat} (h : k < n) : (zTo n k).set k (List.replicate n 0) = zTo n (k+1) := by
  refine rows_ext (by simp [zTo]) (fun i hi => ?_)
  rw [List.length_set, zTo_len] at hi
  rw [zTo_row hi]
  have : rowL ((zTo n k).set k (List.replicate n 0)) i = if i = k then List.replicate n 0 else rowL (zTo n k) i := by
    simp only [rowL, List.getD_eq_getElem?_getD, List.getElem?_set]
    by_cases e : k = i
    · subst e; simp [zTo_len, h]
    · simp [e, Ne.symm e]
  rw [this, zTo_row hi]
  by_cases e : i = k
  · rw [if_pos e, if_pos (by omega)]
  · rw [if_neg e]
    by_cases e2 : i < k
    · rw [if_pos e2, if_pos (by omega)]
    · rw [if_neg e2, if_neg (by omega)]
set_option maxRecDepth 100000 in
theorem zeroRows_any (n : Nat) (w : World) (hn : n ≤ 12) :
    Calls Try.prog 123 #[.int .i64 (n : Int)] w fun e w' => ∃ g vl, e = .returned (.slice (some ⟨g, 0, none⟩) n n) ∧ RowsP w' w.heap.size (.slice (some ⟨g, 0, none⟩) n n) vl (sqM (fun _ _ => 0) n n) ∧ Below w.heap.size w w' := by
  obtain ⟨i0, hi, hz0, hz1, hz2⟩ := info_parts infoInt
  obtain ⟨j0, hj0, hy0, hy1, hy2⟩ := info_parts infoRow0
  go_enter Try.func123, Try.ntmps123
  go_wp2_with (at_make; refine wpList_make_full _ rfl (.tmp 5) (.tmp 5) 60 rfl w.heap.size 24 j0 (.slice none 0 0) 1 Try.underlying60 hj0 hy0 hy1 .i64 .i64 _ _ n rfl rfl rfl rfl (by rw [hy2]; omega) (by unfold maxLen; omega) (Nat.le_refl _) ?_; intro w1 hown hgrow)
  have hb0 : Below w.heap.size w w1 := (Below.refl _ _).grown hgrow (Nat.le_refl _) (fun k h => by cases h)
  have hro : RowsP w1 w.heap.size (.slice (some ⟨w.heap.size, 0, none⟩) n n) (List.replicate n (.slice none 0 0)) (zTo n 0) := by
    rw [zTo_zero]
    exact RowsP.made (by simpa [Value.cells, toList_madeCells_one] using hown)
  clear hown hgrow
  obtain ⟨G, hG⟩ : ∃ G, G = w.heap.size := ⟨_, rfl⟩
  have HG := Lib.hid hG
  rw [← hG] at hro ⊢
  have hGG : w.heap.size ≤ G := by omega
  have hb0' : Below w.heap.size w w1 := hb0
  clear hG hb0
  have HRO := Lib.hid hro
  have hzs := (by have := hb0'.size; omega : w.heap.size ≤ w1.heap.size)
  clear hro
  go_wp2_with fail
  go_loopw [9] (fun i wr => ∃ (k : Nat) (vl : List Value), k ≤ n ∧ i = .int .i64 k ∧ RowsP wr w.heap.size (.slice (some ⟨G, 0, none⟩) n n) vl (zTo n k) ∧ Below w.heap.size w wr) (fun i _ => n - (intOf i).toNat)
  case atStart => exact ⟨0, _, Nat.zero_le _, rfl, by rw [← HG.out]; exact HRO.out, hb0'⟩
  case round =>
    obtain ⟨k, vl, hk, rfl, hro, hb⟩ := hrel
    have hbs := hb.size
    have HR := Lib.hid hro
    by_cases hlt : k < n
    · obtain ⟨W1, hW1⟩ : ∃ x : World, x = wr := ⟨_, rfl⟩
      subst hW1
      have k1 : (k : Int) < (n : Int) := by omega
      clear hro
      go_wp2_with (
        at_make
        refine wpList_make_full _ rfl (.tmp 14) (.tmp 14) 24 rfl W1.heap.size 3 i0 (.int .i64 0) 1 Try.underlying24 hi hz0 hz1 .i64 .i64 _ _ n rfl rfl rfl rfl (by rw [hz2]; omega) (by unfold maxLen; omega) (Nat.le_refl _) ?_
        intro w2 hown2 hgrow2
        have b2 : Below W1.heap.size W1 w2 := (Below.refl _ _).grown hgrow2 (Nat.le_refl _) (fun k h => by cases h)
        have o2 : OwnI w2 W1.heap.size (.slice (some ⟨W1.heap.size, 0, none⟩) n n) (List.replicate n 0) := by
          have h := made_row (fun _ => 0) hown2
          simpa [rowF, fmap] using h
        have hro2 := HR.out.below b2 (Nat.le_refl _)
        have hbk := HR.out.blk
        obtain ⟨g9, c9, e9, hg1, hg2, ⟨z9, hz9⟩, hf9, hnew⟩ := hro2.putRow (k := k) (r := List.replicate n 0) (by rw [zTo_len]; exact hlt) (o2.mono hbs) (fun c hc => by
          simp only [Value.ownBlock, Option.some.injEq] at hc
          subst hc
          exact ⟨fun h => by have := hbk.1 _ h; omega, fun j hj hne h => by have := hbk.2 j hj _ h; omega⟩)
        simp only [Value.slice.injEq, Option.some.injEq, Addr.mk.injEq, and_true] at e9
        obtain ⟨rfl, -, -⟩ := e9
        rw [zTo_step hlt] at hnew
        have HN := Lib.hid hnew
        have bw2 := hb.trans (b2.mono hbs)
        have bw3 := bw2.setCell (p := ⟨G, k, none⟩) hg1 (.slice (some ⟨W1.heap.size, 0, none⟩) n n)
        clear hown2 hgrow2 hnew o2 hro2 hbk)
      go_roundw
      case rel => exact ⟨k + 1, _, by omega, by go_num, HN.out, bw3⟩
      case measure => simp [intOf]; omega
    · obtain rfl : k = n := by omega
      rw [zTo_end] at HR
      clear hro
      go_wp2_with fail
      go_ret
      exact ⟨G, vl, rfl, HR.out, hb⟩



/-- a row of the rows has grown, and may lie in a new block -/
theorem RowsP.growRow {w w2 : World} {B : Nat} {v u : Value} {vl : List Value} {xss : List (List Int)} {r : List Int} (h : RowsP w B v vl xss) {k : Nat} (hk : k < xss.length) (hg : w.grownBy w2 (valAt vl k).ownBlock) (hu : OwnI w2 B u r) (hub : ∀ c, u.ownBlock = some c → (valAt vl k).ownBlock = some c ∨ w.heap.size ≤ c) :
    ∃ g c, v = .slice (some ⟨g, 0, none⟩) xss.length c ∧ B ≤ g ∧ g < w2.heap.size ∧ (∃ z, w2.cell? ⟨g, k, none⟩ = some z) ∧ w2.frozen? ⟨g, k, none⟩ = false ∧ RowsP (w2.setCell ⟨g, k, none⟩ u) B v (vl.set k u) (xss.set k r) := by
  have hl := h.o.vlen
  have ⟨bv, br⟩ := h.blk
  have n1 : ∀ c, u.ownBlock = some c → v.ownBlock ≠ some c := fun c hc h2 => by
    rcases hub c hc with h3 | h3
    · exact h.o.apart k hk c h3 h2
    · have := bv c h2; omega
  have n2 : ∀ j, j < xss.length → j ≠ k → ∀ c, u.ownBlock = some c → (valAt vl j).ownBlock ≠ some c := fun j hj hjk c hc h2 => by
    rcases hub c hc with h3 | h3
    · rcases Nat.lt_or_gt_of_ne hjk with h6 | h6
      · exact h.pair j k h6 hk c h2 h3
      · exact h.pair k j h6 hj c h3 h2
    · have := br j hj c h2; omega
  have hout : w2.ownsRow B 24 1 v xss.length vl := World.ownsRow.kept h.o.own hg (own_ne (fun c h1 h2 => h.o.apart k hk c h2 h1))
  rcases h.o.own.2 with ⟨e, h0⟩ | ⟨g, cap3, cur, e, hb, hgg, _⟩
  · omega
  · subst e
    have h1 := World.ownsRow.cellAt hout k (by omega)
    have hgr := grown_set w2 ⟨g, k, none⟩ u
    have hval : ∀ j, valAt (vl.set k u) j = if j = k then u else valAt vl j := by
      intro j
      simp only [valAt, List.getD_eq_getElem?_getD, List.getElem?_set]
      by_cases e : k = j
      · subst e; simp [show k < vl.length by omega]
      · simp [e, Ne.symm e]
    have hrow : ∀ j, j < xss.length → rowL (xss.set k r) j = if j = k then r else rowL xss j := by
      intro j hj
      simp only [rowL, List.getD_eq_getElem?_getD, List.getElem?_set]
      by_cases e : k = j
      · subst e; simp [hk]
      · simp [e, Ne.symm e]
    refine ⟨g, cap3, rfl, hb, (World.ownsRow.lt hout g rfl).2, ⟨_, by rw [h1, valAt_get (by omega)]⟩, World.ownsRow.frozenAt hout k, ⟨⟨?_, fun j hj => ?_, fun j hj c hc => ?_⟩, fun i j hij hj c hc => ?_⟩⟩
    · rw [List.length_set]
      exact (World.ownsRow.stored hout k u).1
    · rw [List.length_set] at hj
      rw [hval, hrow j hj]
      by_cases e : j = k
      · rw [if_pos e, if_pos e]
        exact hu.kept hgr (own_nb (fun c h1 h2 => n1 c h1 (by rw [h2]; rfl)))
      · rw [if_neg e, if_neg e]
        have h3 : OwnI w2 B (valAt vl j) (rowL xss j) := (h.o.row j hj).kept hg (own_ne (fun c h4 h5 => by
          rcases Nat.lt_or_gt_of_ne e with h6 | h6
          · exact h.pair j k h6 hk c h4 h5
          · exact h.pair k j h6 hj c h5 h4))
        exact h3.kept hgr (own_nb (fun c h1 h2 => h.o.apart j hj c h1 (by rw [h2]; rfl)))
    · rw [List.length_set] at hj
      rw [hval] at hc
      by_cases e : j = k
      · rw [if_pos e] at hc; exact n1 c hc
      · rw [if_neg e] at hc; exact h.o.apart j hj c hc
    · rw [List.length_set] at hj
      rw [hval] at hc ⊢
      by_cases e : j = k
      · rw [if_pos e]
        rw [if_neg (by omega)] at hc
        exact fun h2 => n2 i (by omega) (by omega) c h2 hc
      · rw [if_neg e]
        by_cases e2 : i = k
        · rw [if_pos e2] at hc
          exact n2 j hj e c hc
        · rw [if_neg e2] at hc
          exact h.pair i j hij hj c hc

def ctF (e : Nat → Nat → Nat) (i j t b : Nat) : Nat := if b < j then cS e b (i+1) else if b = j then cS e b i + t else cS e b i
/-- the openers whose closers are to come, for each run of closers -/
def opR (e : Nat → Nat → Nat) (d i j t : Nat) : List (List Int) := (List.range d).map (fun b => fmap (fun s => (tmF e d (cP e d b + s) : Int)) (ctF e i j t b))
theorem opR_len (e : Nat → Nat → Nat) (d i j t : Nat) : (opR e d i j t).length = d := by simp [opR]
theorem opR_row (e : Nat → Nat → Nat) {d b : Nat} (i j t : Nat) (h : b < d) : rowL (opR e d i j t) b = fmap (fun s => (tmF e d (cP e d b + s) : Int)) (ctF e i j t b) := by simp [opR, rowL, h]
theorem opR_ext {e : Nat → Nat → Nat} {d i j t i' j' t' : Nat} (h : ∀ b, b < d → ctF e i j t b = ctF e i' j' t' b) : opR e d i j t = opR e d i' j' t' := by
  simp only [opR]
  apply List.map_congr_left
  intro b hb
  rw [h b (by simpa using hb)]
theorem opR_nextj (e : Nat → Nat → Nat) (d i j : Nat) : opR e d i j (e i j) = opR e d i (j+1) 0 := opR_ext (fun b hb => by
  unfold ctF
  by_cases h1 : b < j
  · rw [if_pos h1, if_pos (by omega)]
  · rw [if_neg h1]
    by_cases h2 : b = j
    · subst h2; rw [if_pos rfl, if_pos (by omega)]; rfl
    · rw [if_neg h2, if_neg (by omega)]
      split <;> rfl)
theorem opR_nexti (e : Nat → Nat → Nat) (d i : Nat) : opR e d i d 0 = opR e d (i+1) 0 0 := opR_ext (fun b hb => by
  unfold ctF
  rw [if_pos hb, if_neg (by omega)]
  split <;> rfl)
theorem opR_zero (e : Nat → Nat → Nat) (d : Nat) : List.replicate d [] = opR e d 0 0 0 := by
  apply List.ext_getElem (by simp [opR])
  intro b h1 h2
  have hb : b < d := by simpa using h1
  have hc : ctF e 0 0 0 b = 0 := by
    unfold ctF
    rw [if_neg (by omega)]
    split <;> rfl
  simp [opR, hc, fmap]
theorem opR_set {e : Nat → Nat → Nat} {d i j t X : Nat} (hj : j < d) (hX : tmF e d (cP e d j + cS e j i + t) = X) : (opR e d i j t).set j (rowL (opR e d i j t) j ++ [(X : Int)]) = opR e d i j (t+1) := by
  have hr := opR_row e i j t hj
  have hcj : ctF e i j t j = cS e j i + t := by rw [ctF, if_neg (by omega), if_pos rfl]
  have hcj2 : ctF e i j (t+1) j = cS e j i + t + 1 := by rw [ctF, if_neg (by omega), if_pos rfl]; omega
  rw [hr, hcj]
  apply List.ext_getElem (by rw [List.length_set, opR_len, opR_len])
  intro b h1 h2
  have hb : b < d := by rw [opR_len] at h2; exact h2
  rw [List.getElem_set]
  by_cases e1 : j = b
  · subst e1
    rw [if_pos rfl]
    simp only [opR, List.getElem_map, List.getElem_range]
    rw [hcj2, fmap_succ, ← hX, Nat.add_assoc (cP e d j)]
  · rw [if_neg e1]
    simp only [opR, List.getElem_map, List.getElem_range]
    have : ctF e i j t b = ctF e i j (t+1) b := by
      unfold ctF
      by_cases h3 : b < j
      · rw [if_pos h3, if_pos h3]
      · rw [if_neg h3, if_neg h3, if_neg (fun h => e1 h.symm), if_neg (fun h => e1 h.symm)]
    rw [this]
/-- the openers of the run of closers i, all of them -/
theorem opR_full {e : Nat → Nat → Nat} {d i : Nat} (hu : UpN e) (hi : i < d) : rowL (opR e d i d 0) i = fmap (fun s => (tmF e d (cP e d i + s) : Int)) (cS e i d) := by
  rw [opR_row e i d 0 hi]
  congr 1
  rw [ctF, if_pos hi]
  have : ∀ k, i + 1 ≤ k → cS e i k = cS e i (i+1) := by
    intro k hk
    induction k with
    | zero => omega
    | succ k ih =>
      by_cases e0 : i + 1 = k + 1
      · rw [e0]
      · have h1 : cS e i (k+1) = cS e i k + e k i := rfl
        rw [h1, ih (by omega), hu k i (by omega)]; omega
  exact (this d (by omega)).symm
/-- a row that lies below what changes -/
theorem OwnI.far {w w' : World} {B0 B g n c : Nat} {xs : List Int} (h : OwnI w B0 (.slice (some ⟨g, 0, none⟩) n c) xs) (hb : Below B w w') (hg : g < B) : OwnI w' B0 (.slice (some ⟨g, 0, none⟩) n c) xs := by
  refine ⟨h.1, ?_⟩
  rcases h.2 with hn | ⟨g', cap, cur, e, hb', hgg, rest⟩
  · exact .inl hn
  · refine .inr ⟨g', cap, cur, e, hb', ?_, rest⟩
    simp only [Value.slice.injEq, Option.some.injEq, Addr.mk.injEq, and_true] at e
    rw [hb.block g' (by omega)]
    exact hgg
/-- a list that grows in its block, and rows of numbers behind it -/
structure StM (W0 W : World) (B0 B gp go N d L : Nat) (ps : List Int) (vl : List Value) (rs : List (List Int)) : Prop where
  o : OwnI W B0 (.slice (some ⟨gp, 0, none⟩) L N) ps
  r : RowsP W B (.slice (some ⟨go, 0, none⟩) d d) vl rs
  l : ps.length = L
  lr : rs.length = d
  lo : B0 ≤ gp
  hi : gp < B
  bs : B ≤ W.heap.size
  b : Below B0 W0 W
theorem StM.push {W0 W W' : World} {B0 B gp go N d L : Nat} {ps ps' : List Int} {vl : List Value} {rs : List (List Int)} (h : StM W0 W B0 B gp go N d L ps vl rs) (hg : W.grownBy W' (some gp)) (ho : OwnI W' B0 (.slice (some ⟨gp, 0, none⟩) (L+1) N) ps') (hl : ps'.length = L + 1) : StM W0 W' B0 B gp go N d (L+1) ps' vl rs := by
  have ⟨c1, c2⟩ := h.r.cut (Nat.le_refl _)
  have h1 := h.hi
  refine ⟨ho, h.r.kept hg (fun c e e2 => ?_) (fun k hk c e e2 => ?_), hl, h.lr, h.lo, h.hi, Nat.le_trans h.bs hg.size, h.b.trans (grown_below hg _ h.lo (Nat.le_trans h.b.size (Nat.le_refl _) |> fun _ => Nat.le_trans (Nat.le_trans h.lo (Nat.le_of_lt h.hi)) h.bs))⟩
  · have := (c1 c e).1
    simp only [Option.some.injEq] at e2; omega
  · have := (c2 k hk c e).1
    simp only [Option.some.injEq] at e2; omega
theorem StM.grow {W0 W w3 : World} {B0 B gp go N d L : Nat} {ps : List Int} {vl : List Value} {rs : List (List Int)} (h : StM W0 W B0 B gp go N d L ps vl rs) {j : Nat} (hj : j < d) {v' : Value} {r : List Int} (hg : W.grownBy w3 (valAt vl j).ownBlock) (ho : OwnI w3 B v' r) (hat : v'.ownBlock = (valAt vl j).ownBlock ∨ v'.ownBlock = some (W.heap.size + 1)) :
    (∃ z, w3.cell? ⟨go, j, none⟩ = some z) ∧ w3.frozen? ⟨go, j, none⟩ = false ∧ StM W0 (w3.setCell ⟨go, j, none⟩ v') B0 B gp go N d L ps (vl.set j v') (rs.set j r) := by
  have hjr : j < rs.length := by rw [h.lr]; exact hj
  obtain ⟨g', c', ev, hB', hg', hz, hf, HR⟩ := h.r.growRow hjr hg ho (fun c e => by
    rcases hat with h1 | h1
    · exact .inl (h1 ▸ e)
    · rw [h1] at e
      simp only [Option.some.injEq] at e
      exact .inr (by omega))
  simp only [Value.slice.injEq, Option.some.injEq, Addr.mk.injEq, and_true] at ev
  obtain ⟨rfl, -, rfl⟩ := ev
  have hlo := h.lo
  have hhi := h.hi
  have hb3 : Below B W w3 := below_of_grown hg (fun c e => ((h.r.o.row j hjr).lt c e).1) h.bs
  have hgr := grown_set w3 ⟨go, j, none⟩ v'
  refine ⟨hz, hf, ⟨(h.o.far hb3 hhi).kept hgr (own_b (by show gp ≠ go; omega)), ?_, h.l, by rw [List.length_set]; exact h.lr, h.lo, h.hi, ?_, (h.b.trans (hb3.mono (by omega))).setCell (p := ⟨go, j, none⟩) (by show B0 ≤ go; omega) _⟩⟩
  · exact HR
  · have := h.bs; have := hb3.size; simp; omega
theorem StM.putP {W0 W : World} {B0 B gp go N d L : Nat} {ps : List Int} {vl : List Value} {rs : List (List Int)} (h : StM W0 W B0 B gp go N d L ps vl rs) (i : Nat) (x : Int) : StM W0 (W.setCell ⟨gp, i, none⟩ (.int .i64 x)) B0 B gp go N d L (ps.set i x) vl rs := by
  have hp := h.o.put h.l.symm i x
  have ⟨c1, c2⟩ := h.r.cut (Nat.le_refl _)
  have h1 := h.hi
  refine ⟨hp.1, h.r.kept hp.2 (fun c e e2 => ?_) (fun k hk c e e2 => ?_), by rw [List.length_set]; exact h.l, h.lr, h.lo, h.hi, by simpa using h.bs, h.b.setCell (p := ⟨gp, i, none⟩) h.lo _⟩
  · have := (c1 c e).1
    simp only [Option.some.injEq] at e2; omega
  · have := (c2 k hk c e).1
    simp only [Option.some.injEq] at e2; omega

def addB (s x : Int) : Bool := decide (0 ≤ x) && decide (s + x ≤ 12)
theorem addB_iff {s x : Int} : addB s x = true ↔ 0 ≤ x ∧ s + x ≤ 12 := by simp [addB]
def addW (b : Nat) (s x : Int) (w : World) : World := if addB s x = true then w.setCell ⟨b, 0, none⟩ (.int .i64 (s + x)) else w
theorem iAdd_any (b : Nat) (s x : Int) (v : Value) (w : World) (hv : Var2 w b (.int .i64 s) v) (h0 : 0 ≤ s ∧ s ≤ 12) :
    Calls Try.prog 168 #[.pointer (some ⟨b, 0, none⟩), .int .i64 x] w fun e w' => e = .returned (.bool (addB s x)) ∧ w' = addW b s x w := by
  have ⟨⟨z, c, d⟩, f, g⟩ := hv
  by_cases h1 : x < 0
  · have H : Hid (addB s x = false) := by rw [Hid, ← Bool.not_eq_true, addB_iff]; omega
    go_enter Try.func168, Try.ntmps168
    go_wp2_with fail
    go_ret
    exact ⟨ret_bool H.out.symm, by rw [addW, H.out]; rfl⟩
  · by_cases h2 : 12 - s < x
    · have H : Hid (addB s x = false) := by rw [Hid, ← Bool.not_eq_true, addB_iff]; omega
      go_enter Try.func168, Try.ntmps168
      go_wp2_with fail
      go_ret
      exact ⟨ret_bool H.out.symm, by rw [addW, H.out]; rfl⟩
    · have H : Hid (addB s x = true) := addB_iff.2 (by omega)
      go_enter Try.func168, Try.ntmps168
      go_wp2_with fail
      go_ret
      exact ⟨ret_bool H.out.symm, by rw [addW, H.out]; rfl⟩

theorem infoSum : (Try.prog.info? 161).map (fun i => (i.zero, i.size, i.bytes)) = some (some (.agg #[.int .i64 0, .slice none 0 0]), 2, 32) := by kernel_rfl
theorem valAt_end (vl : List Value) (v : Value) : valAt (vl ++ [v]) vl.length = v := by
  simp [valAt]
/-- the cells of the first k rows, each with its sum ahead of it -/
def pcs (xss : List (List Int)) (vl : List Value) : Nat → List Value
  | 0 => []
  | k+1 => pcs xss vl k ++ [.int .i64 (totR (rowL xss k)), valAt vl k]
theorem pcs_len (xss : List (List Int)) (vl : List Value) : ∀ k, (pcs xss vl k).length = k * 2
  | 0 => rfl
  | k+1 => by rw [pcs, List.length_append, pcs_len xss vl k]; simp; omega
theorem pcs_at {xss : List (List Int)} {vl : List Value} {i : Nat} : ∀ {k : Nat}, i < k → (pcs xss vl k)[i * 2]? = some (.int .i64 (totR (rowL xss i))) ∧ (pcs xss vl k)[i * 2 + 1]? = some (valAt vl i)
  | 0, h => by omega
  | k+1, h => by
    have hl := pcs_len xss vl k
    by_cases e : i = k
    · subst e
      rw [pcs, List.getElem?_append_right (by omega), List.getElem?_append_right (by omega), hl]
      refine ⟨?_, ?_⟩
      · rw [Nat.sub_self]; rfl
      · rw [show i * 2 + 1 - i * 2 = 1 by omega]; rfl
    · rw [pcs, List.getElem?_append_left (by omega), List.getElem?_append_left (by omega)]
      exact pcs_at (by omega)
theorem rowL_app {xss yss : List (List Int)} {k : Nat} (h : k < xss.length) : rowL (xss ++ yss) k = rowL xss k := by
  rw [rowL, rowL, List.getD_eq_getElem?_getD, List.getD_eq_getElem?_getD, List.getElem?_append_left h]
theorem rowL_last (xss : List (List Int)) (r : List Int) : rowL (xss ++ [r]) xss.length = r := by
  simp [rowL]
theorem rowL_take {xss : List (List Int)} {j k : Nat} (h : j < k) : rowL (xss.take k) j = rowL xss j := by
  rw [rowL, rowL, List.getD_eq_getElem?_getD, List.getD_eq_getElem?_getD, List.getElem?_take, if_pos h]
theorem take_snocR {xss : List (List Int)} {k : Nat} (h : k < xss.length) : xss.take (k+1) = xss.take k ++ [rowL xss k] := by
  rw [List.take_succ_eq_append_getElem h]
  simp [rowL, h]
theorem pcs_congr {xss yss : List (List Int)} {vl ul : List Value} : ∀ {k : Nat}, (∀ j, j < k → rowL xss j = rowL yss j ∧ valAt vl j = valAt ul j) → pcs xss vl k = pcs yss ul k
  | 0, _ => rfl
  | k+1, h => by rw [pcs, pcs, pcs_congr (fun j hj => h j (by omega)), (h k (by omega)).1, (h k (by omega)).2]
/-- rows with their sums, each row in a block of its own -/
structure SumP (w : World) (B : Nat) (v : Value) (vl : List Value) (xss : List (List Int)) : Prop where
  own : w.ownsRow B 161 2 v xss.length (pcs xss vl xss.length)
  vlen : vl.length = xss.length
  row : ∀ k, k < xss.length → OwnI w B (valAt vl k) (rowL xss k)
  apart : ∀ k, k < xss.length → ∀ c, (valAt vl k).ownBlock = some c → v.ownBlock ≠ some c
  pair : ∀ j k, j < k → k < xss.length → ∀ c, (valAt vl j).ownBlock = some c → (valAt vl k).ownBlock ≠ some c
theorem SumP.nil (w : World) (B : Nat) : SumP w B (.slice none 0 0) [] [] :=
  ⟨World.ownsRow_nil _ _ _ _, rfl, fun k hk => by simp at hk, fun k hk => by simp at hk, fun j k _ hk => by simp at hk⟩
theorem SumP.form {w : World} {B : Nat} {v : Value} {vl : List Value} {xss : List (List Int)} (h : SumP w B v vl xss) : ∃ a cap, v = .slice a xss.length cap := by
  rcases h.own.2 with ⟨rfl, h0⟩ | ⟨g, cap, cur, rfl, _⟩
  · exact ⟨none, 0, by rw [h0]⟩
  · exact ⟨_, _, rfl⟩
theorem SumP.below {w w' : World} {B B' : Nat} {v : Value} {vl : List Value} {xss : List (List Int)} (h : SumP w B v vl xss) (hb : Below B' w w') (hB : w.heap.size ≤ B') : SumP w' B v vl xss :=
  ⟨ownsRow_bel h.own hb hB, h.vlen, fun k hk => (h.row k hk).below hb hB, h.apart, h.pair⟩
theorem SumP.lt {w : World} {B : Nat} {v : Value} {vl : List Value} {xss : List (List Int)} (h : SumP w B v vl xss) : ∀ b, v.ownBlock = some b → B ≤ b ∧ b < w.heap.size := World.ownsRow.lt h.own
theorem SumP.blk {w : World} {B : Nat} {v : Value} {vl : List Value} {xss : List (List Int)} (h : SumP w B v vl xss) : (∀ c, v.ownBlock = some c → c < w.heap.size) ∧ ∀ k, k < xss.length → ∀ c, (valAt vl k).ownBlock = some c → c < w.heap.size :=
  ⟨fun c e => (h.lt c e).2, fun k hk c e => ((h.row k hk).lt c e).2⟩
theorem SumP.mono {w : World} {B B' : Nat} {v : Value} {vl : List Value} {xss : List (List Int)} (h : SumP w B v vl xss) (hB : B' ≤ B) : SumP w B' v vl xss := by
  refine ⟨⟨h.own.1, ?_⟩, h.vlen, fun k hk => (h.row k hk).mono hB, h.apart, h.pair⟩
  rcases h.own.2 with hn | ⟨g, cap, cur, e, hb, rest⟩
  · exact .inl hn
  · exact .inr ⟨g, cap, cur, e, by omega, rest⟩
/-- the cells of a part -/
theorem SumP.at {w : World} {B n cap : Nat} {a : Option Addr} {vl : List Value} {xss : List (List Int)} (h : SumP w B (.slice a n cap) vl xss) {k : Nat} (hk : k < xss.length) : ∃ g, a = some ⟨g, 0, none⟩ ∧ g < w.heap.size ∧ w.cell? ⟨g, k * 2, none⟩ = some (.int .i64 (totR (rowL xss k))) ∧ w.cell? ⟨g, k * 2 + 1, none⟩ = some (valAt vl k) := by
  rcases h.own.2 with ⟨e, h0⟩ | ⟨g, cap3, cur, e, hb, hg, hn, hm, hs, ht⟩
  · omega
  · simp only [Value.slice.injEq] at e
    obtain ⟨rfl, rfl, rfl⟩ := e
    have ⟨h1, h2⟩ := pcs_at (xss := xss) (vl := vl) hk
    exact ⟨g, rfl, (Array.getElem?_eq_some_iff.1 hg).1, by rw [World.ownsRow.cellAt h.own (k*2) (by omega), h1], by rw [World.ownsRow.cellAt h.own (k*2+1) (by omega), h2]⟩
/-- one part more at the end -/
theorem SumP.snoc {w w' : World} {B C : Nat} {v v' : Value} {vl : List Value} {xss : List (List Int)} {u : Value} {r : List Int} (h : SumP w B v vl xss) (hr : OwnI w C u r) (hBC : B ≤ C) (hvC : ∀ c, v.ownBlock = some c → c < C) (hrC : ∀ k, k < xss.length → ∀ c, (valAt vl k).ownBlock = some c → c < C)
    (ho : w'.ownsRow B 161 2 v' (xss.length + 1) (pcs xss vl xss.length ++ [.int .i64 (totR r), u])) (hg : w.grownBy w' v.ownBlock) (hv' : v'.ownBlock = v.ownBlock ∨ ∃ m, w.heap.size ≤ m ∧ v'.ownBlock = some m) : SumP w' B v' (vl ++ [u]) (xss ++ [r]) := by
  have hl := h.vlen
  have e1 : ∀ k, k < xss.length → valAt (vl ++ [u]) k = valAt vl k := fun k hk => by rw [valAt, valAt, List.getD_eq_getElem?_getD, List.getD_eq_getElem?_getD, List.getElem?_append_left (by omega)]
  have e2 : valAt (vl ++ [u]) xss.length = u := by rw [← hl]; exact valAt_end vl u
  have hur := hr.lt
  refine ⟨?_, by simp [hl], fun k hk => ?_, fun k hk c hc hc2 => ?_, fun j k hjk hk c hc => ?_⟩
  · rw [List.length_append, List.length_singleton, pcs, e2, rowL_last, pcs_congr (yss := xss) (ul := vl) (fun j hj => ⟨rowL_app hj, e1 j hj⟩)]
    exact ho
  · rw [List.length_append, List.length_singleton] at hk
    by_cases e : k = xss.length
    · subst e
      rw [e2, rowL_last]
      exact (hr.mono hBC).kept hg (own_ne (fun c h1 h3 => by have := hvC c h3; have := (hur c h1).1; omega))
    · rw [e1 k (by omega), rowL_app (by omega)]
      exact (h.row k (by omega)).kept hg (own_ne (fun c h1 h3 => h.apart k (by omega) c h1 h3))
  · rw [List.length_append, List.length_singleton] at hk
    by_cases e : k = xss.length
    · subst e
      rw [e2] at hc
      have h1 := hur c hc
      rcases hv' with h3 | ⟨m, hm, h3⟩
      · rw [h3] at hc2; have := hvC c hc2; omega
      · rw [h3] at hc2; simp only [Option.some.injEq] at hc2; omega
    · rw [e1 k (by omega)] at hc
      have h1 := ((h.row k (by omega)).lt c hc).2
      rcases hv' with h3 | ⟨m, hm, h3⟩
      · rw [h3] at hc2; exact h.apart k (by omega) c hc hc2
      · rw [h3] at hc2; simp only [Option.some.injEq] at hc2; omega
  · rw [List.length_append, List.length_singleton] at hk
    rw [e1 j (by omega)] at hc
    by_cases e : k = xss.length
    · subst e
      rw [e2]
      intro h3
      have := hrC j (by omega) c hc
      have := (hur c h3).1
      omega
    · rw [e1 k (by omega)]
      exact h.pair j k hjk (by omega) c hc

theorem Var2.set0 {w : World} {b : Nat} {u v : Value} (h : Var2 w b u v) (u' : Value) : Var2 (w.setCell ⟨b, 0, none⟩ u') b u' v := by
  refine ⟨⟨by simpa using h.1.1, ?_, ?_⟩, by simpa using h.2.1, by simpa using h.2.2⟩
  · rw [World.cell?_setCell_same _ _ _ h.1.2.1]
  · rw [World.cell?_setCell_other _ _ _ _ (by simp)]; exact h.1.2.2

def addV (s x : Int) : Int := if addB s x = true then s + x else s
theorem iPut_any (b : Nat) (s x : Int) (v : Value) (ys : List Int) (w : World) (hv : Var2 w b (.int .i64 s) v) (h0 : 0 ≤ s ∧ s ≤ 12) (ho : OwnI w (b+1) v ys) (h63 : ys.length ≤ 1048576) :
    Calls Try.prog 174 #[.pointer (some ⟨b, 0, none⟩), .int .i64 x, .int .i64 x] w fun e w' => e = .returned (.bool (addB s x)) ∧ ∃ v', Var2 w' b (.int .i64 (addV s x)) v' ∧ OwnI w' (b+1) v' (ys ++ [x]) ∧ Below b w w' := by
  have ⟨⟨z, c, d⟩, f, g⟩ := hv
  have HV := Lib.hid hv
  obtain ⟨av, cv, rfl⟩ := ho.form
  have HO := Lib.hid ho
  clear hv ho
  go_enter Try.func174, Try.ntmps174
  go_wp2_with (at_builtin; refine push_at rfl _ _ rfl (z := x) rfl HO.out rfl (by omega) (by omega) ?_)
  intro v3 w3 o3 hg hat
  have hU := HO.out.lt
  have hv3 := HV.out.kept hg (ne_own (fun c e => by have := (hU c e).1; omega))
  have b3 : Below b w w3 := below_of_grown hg (fun c e => by have := (hU c e).1; omega) (by omega)
  have ⟨⟨z3, c3, d3⟩, f3, g3⟩ := hv3
  clear hg hat hU
  obtain ⟨a3, k3, rfl⟩ := o3.form
  rw [show (ys ++ [x]).length = ys.length + 1 by simp] at o3 ⊢
  go_wp2_with fail
  have hv4 := hv3.set1 (.slice a3 (ys.length + 1) k3)
  refine (iAdd_any b s x _ _ hv4 h0).mono ?_
  rintro e w5 ⟨rfl, hw5⟩
  have H : Hid (∃ v', Var2 w5 b (.int .i64 (addV s x)) v' ∧ OwnI w5 (b+1) v' (ys ++ [x]) ∧ Below b w w5) := by
    rw [hw5, addW, addV]
    cases addB s x
    · exact ⟨.slice a3 (ys.length + 1) k3, by simpa using hv4, by simpa using o3.setBelow (show b < b + 1 by omega) _, by simpa using b3.setCell (Nat.le_refl _) _⟩
    · exact ⟨.slice a3 (ys.length + 1) k3, by simpa using hv4.set0 _, by simpa using (o3.setBelow (show b < b + 1 by omega) _).setBelow (show b < b + 1 by omega) _, by simpa using (b3.setCell (Nat.le_refl _) _).setCell (Nat.le_refl _) _⟩
  clear hw5 hv4
  go_wp2_with fail
  go_ret
  exact ⟨rfl, H.out⟩

set_option maxRecDepth 100000 in
theorem iPutS_any (b : Nat) (s x : Int) (v : Value) (vl : List Value) (xss : List (List Int)) (r : List Int) (ra : Option Addr) (rc B C : Nat) (w : World) (hv : Var2 w b (.int .i64 s) v) (h0 : 0 ≤ s ∧ s ≤ 12)
    (hp : SumP w B v vl xss) (hr : OwnI w C (.slice ra r.length rc) r) (hbB : b + 1 ≤ B) (hBC : B ≤ C) (hC : C ≤ w.heap.size) (hvC : ∀ c, v.ownBlock = some c → c < C) (hrC : ∀ k, k < xss.length → ∀ c, (valAt vl k).ownBlock = some c → c < C) (h63 : xss.length ≤ 1048576) :
    Calls Try.prog 175 #[.pointer (some ⟨b, 0, none⟩), .agg #[.int .i64 (totR r), .slice ra r.length rc], .int .i64 x] w fun e w' => e = .returned (.bool (addB s x)) ∧ ∃ v', Var2 w' b (.int .i64 (addV s x)) v' ∧ SumP w' B v' (vl ++ [.slice ra r.length rc]) (xss ++ [r]) ∧ Below b w w' := by
  obtain ⟨i0, hi, hz0, hz1, hz2⟩ := info_parts infoSum
  have ⟨⟨z, c, d⟩, f, g⟩ := hv
  have HV := Lib.hid hv
  obtain ⟨av, cv, rfl⟩ := hp.form
  have HP := Lib.hid hp
  have HR := Lib.hid hr
  have HB := Lib.hid hvC
  have HRB := Lib.hid hrC
  have Hown := Lib.hid (ownsRow_bel hp.own (w' := ((w.alloc (.cells #[.int .i64 (totR r), .slice ra r.length rc] 161)).alloc (.cells #[.int .i64 (totR r), .slice ra r.length rc] 161)).drew) ((((Below.refl _ _).alloc (Nat.le_refl _) _).alloc (by simp) _).drew) (Nat.le_refl _))
  have hnews := cell_two_new (w.alloc (.cells #[.int .i64 (totR r), .slice ra r.length rc] 161)) (.int .i64 (totR r)) (.slice ra r.length rc) 161
  simp only [World.size_alloc] at hnews
  have Hnews := Lib.hid hnews
  have hpl := pcs_len xss vl xss.length
  have HPL := Lib.hid hpl
  clear hv hp hr hnews hvC hrC hpl
  obtain ⟨PC, hPC⟩ : ∃ PC, PC = pcs xss vl xss.length := ⟨_, rfl⟩
  have HPC := Lib.hid hPC
  rw [← hPC] at Hown HPL
  clear hPC
  obtain ⟨T, hT⟩ : ∃ T, T = totR r := ⟨_, rfl⟩
  have HT := Lib.hid hT
  rw [← hT] at Hown Hnews ⊢
  clear hT
  go_enter Try.func175, Try.ntmps175
  go_wp2_with fail
  go_region_law (refine step_append_lies _ (by rfl) _ _ _ (by rfl) B 161 i0 (.agg #[.int .i64 0, .slice none 0 0]) 2 32 Try.underlying118 hi hz0 hz1 hz2 rfl (by omega) (.slice av xss.length cv) xss.length PC (by rfl) Hown.out ⟨w.heap.size + 1, 0, none⟩ 1 1 [.int .i64 T, .slice ra r.length rc] (by rfl) (by rfl) Hnews.out (by intro u hu; simp at hu; rcases hu with rfl | rfl <;> rfl) (by omega) (by unfold maxLen; omega) (by omega) (by simp; omega) (w.heap.size + 2) (by simp) ?_; intro gg cap3 w3 hown3 hgrow hat hlt3; have hg2 : w.grownBy w3 (Value.slice av xss.length cv).ownBlock := grown_alloc_set (grown_alloc_set (o := .cells #[.int .i64 T, .slice ra r.length rc] 161) ⟨hgrow.os, hgrow.tape, hgrow.output, hgrow.size, hgrow.block⟩); have hv3 := HV.out.kept hg2 (ne_own (fun c e => by have := (HP.out.lt c e).1; omega)); have ⟨⟨z3, c3, d3⟩, f3, g3⟩ := hv3)
  all_goals
    have hp3 : SumP w3 B (.slice (some ⟨gg, 0, none⟩) (xss.length + 1) cap3) (vl ++ [.slice ra r.length rc]) (xss ++ [r]) := by
      refine HP.out.snoc HR.out hBC HB.out HRB.out ?_ hg2 ?_
      · rw [← HPC.out, ← HT.out]; exact hown3
      · rcases hat with h | h
        · exact .inl (by rw [h]; rfl)
        · exact .inr ⟨gg, by omega, rfl⟩
    have b3 : Below b w w3 := below_of_grown hg2 (fun c e => by have := (HP.out.lt c e).1; omega) (by omega)
    have hv4 := hv3.set1 (.slice (some ⟨gg, 0, none⟩) (xss.length + 1) cap3)
    clear hown3 hgrow hat hg2
    go_wp2_with fail
    refine (iAdd_any b s x _ _ hv4 h0).mono ?_
    rintro e w5 ⟨rfl, hw5⟩
    have hset : ∀ (p : Addr) (u : Value) (w9 : World), p.block = b → SumP w9 B (.slice (some ⟨gg, 0, none⟩) (xss.length + 1) cap3) (vl ++ [.slice ra r.length rc]) (xss ++ [r]) → SumP (w9.setCell p u) B (.slice (some ⟨gg, 0, none⟩) (xss.length + 1) cap3) (vl ++ [.slice ra r.length rc]) (xss ++ [r]) := fun p u w9 e h =>
      ⟨ownsRow_setCell_below h.own (by rw [e]; omega) u, h.vlen, fun k hk => (h.row k hk).setBelow (by rw [e]; omega) u, h.apart, h.pair⟩
    have H : Hid (∃ v', Var2 w5 b (.int .i64 (addV s x)) v' ∧ SumP w5 B v' (vl ++ [.slice ra r.length rc]) (xss ++ [r]) ∧ Below b w w5) := by
      rw [hw5, addW, addV]
      cases addB s x
      · exact ⟨.slice (some ⟨gg, 0, none⟩) (xss.length + 1) cap3, by simpa using hv4, by simpa using hset _ _ _ rfl hp3, by simpa using b3.setCell (Nat.le_refl _) _⟩
      · exact ⟨.slice (some ⟨gg, 0, none⟩) (xss.length + 1) cap3, by simpa using hv4.set0 _, by simpa using hset _ _ _ rfl (hset _ _ _ rfl hp3), by simpa using (b3.setCell (Nat.le_refl _) _).setCell (Nat.le_refl _) _⟩
    clear hw5 hv4 hset hp3
    go_wp2_with fail
    go_ret
    exact ⟨rfl, H.out⟩

theorem add_ok {s x : Int} (h : addB s x = true) : addV s x = s + x := by rw [addV, if_pos h]
/-- the first k rows may be rows -/
def adTo (xss : List (List Int)) (k : Nat) : Prop := ∀ i, i < k → (∀ j, j < (rowL xss i).length → 0 ≤ nth (rowL xss i) j) ∧ 0 < totR (rowL xss i)
theorem ad_no_num {xss : List (List Int)} {k j : Nat} (hk : k < xss.length) (hj : j < (rowL xss k).length) (hpre : ∀ i, i < j → 0 ≤ nth (rowL xss k) i) (h : addB (totI (rowL xss k) j) (nth (rowL xss k) j) = false) : adB xss = false := by
  rw [← Bool.not_eq_true]
  intro h2
  have ⟨h3, h4⟩ := adB_iff.1 h2
  have h5 := (adB_row h2 hk).2
  have h6 := totI_mono (xs := rowL xss k) (j := j + 1) (k := (rowL xss k).length) (by omega) (h3 k hk).1
  rw [totR] at h5
  rw [totI] at h6
  rw [← Bool.not_eq_true, addB_iff] at h
  exact h ⟨(h3 k hk).1 j hj, by omega⟩
theorem ad_no_row {xss : List (List Int)} {k : Nat} (hk : k < xss.length) (h : addB (matS xss k) (totR (rowL xss k)) = false) : adB xss = false := by
  rw [← Bool.not_eq_true]
  intro h2
  have ⟨h3, h4⟩ := adB_iff.1 h2
  have h5 := adB_row h2 hk
  have h6 := matS_mono (xss := xss) (j := k + 1) (k := xss.length) (by omega) (fun i hi => by have := (h3 i hi).2; omega)
  rw [matS] at h6
  rw [← Bool.not_eq_true, addB_iff] at h
  exact h ⟨by omega, by omega⟩
set_option maxRecDepth 100000 in
set_option maxHeartbeats 1000000 in
theorem iAddUp_any (a : Option Addr) (xss : List (List Int)) (cap : Nat) (w : World) (hx : RdS w a xss) (hs : xss.length + totS xss xss.length ≤ 1048576) :
    Calls Try.prog 115 #[.slice a xss.length cap] w fun e w' => ∃ s va vn vc, e = .returned (.tuple #[.agg #[.int .i64 s, .slice va vn vc], .bool (adB xss)]) ∧ (adB xss = true → s = matS xss xss.length ∧ ∃ vl, SumP w' w.heap.size (.slice va vn vc) vl xss) ∧ Below w.heap.size w w' := by
  have hlen := hx.len
  have HX := Lib.hid hx
  have HS := Lib.hid hs
  go_enter Try.func115, Try.ntmps115
  clear hx hs
  go_wp2_with fail
  go_loopw [12] (fun i wr => ∃ (k : Nat) (v : Value) (vl : List Value), k ≤ xss.length ∧ i = .int .i64 k ∧ Hid (adTo xss k) ∧ 0 ≤ matS xss k ∧ matS xss k ≤ 12 ∧ Var2 wr w.heap.size (.int .i64 0) (.slice none 0 0) ∧ Var2 wr (w.heap.size + 1) (.int .i64 (matS xss k)) v ∧ SumP wr (w.heap.size + 2) v vl (xss.take k) ∧ Below w.heap.size w wr) (fun i _ => xss.length - (intOf i).toNat)
  case atStart => exact ⟨0, .slice none 0 0, [], Nat.zero_le _, rfl, fun j hj => by omega, by simp [matS], by simp [matS], (Var2.new w _ _ _).alloc _, by have h := Var2.new (w.alloc (.cells #[.int .i64 0, .slice none 0 0] 120)) (.int .i64 0) (.slice none 0 0) 120; rw [World.size_alloc] at h; exact h, by rw [List.take_zero]; exact SumP.nil _ _, (by repeat (first | exact Below.refl _ _ | assumption | refine Below.alloc ?_ (by first | exact Nat.le_refl _ | (simp only [World.size_alloc, World.size_setCell, World.size_drew]; omega) | omega) _ | refine Below.setCell ?_ (by first | exact Nat.le_refl _ | (simp only [World.size_alloc, World.size_setCell, World.size_drew]; omega) | omega) _ | refine Below.drew ?_))⟩
  case round =>
    obtain ⟨k, v, vl, hk, rfl, HAD, hm0, hm1, hR, hA, hp, hb⟩ := hrel
    have ⟨av, cv, ev⟩ := hp.form
    obtain ⟨LK, hLK⟩ : ∃ LK, LK = (xss.take k).length := ⟨_, rfl⟩
    rw [← hLK] at ev
    subst ev
    clear hLK
    have hbs := hb.size
    have ⟨⟨zR, cR, dR⟩, fR, gR⟩ := hR
    have ⟨⟨zA, cA, dA⟩, fA, gA⟩ := hA
    have HR := Lib.hid hR
    have HA := Lib.hid hA
    have HP := Lib.hid hp
    by_cases hlt : k < xss.length
    · obtain ⟨b, off, a', cap', rfl, hbl, hc, hr⟩ := (HX.out.below hb).row k hlt
      have k1 : (k : Int) < (xss.length : Int) := by omega
      have hrl := hr.len
      have hrt := row_tot (xss := xss) hlt
      have hrow : (rowL xss k).length ≤ 1048576 := by have := HS.out; omega
      have HRD := Lib.hid hr
      have HT : Hid (xss.take (k+1) = xss.take k ++ [rowL xss k]) := take_snocR hlt
      have HTL : Hid ((xss.take k).length = k) := by rw [Hid, List.length_take]; omega
      have HNR : Hid (∀ j, j < (rowL xss k).length → (∀ i, i < j → 0 ≤ nth (rowL xss k) i) → addB (totI (rowL xss k) j) (nth (rowL xss k) j) = false → adB xss = false) := fun j hj => ad_no_num hlt hj
      have HNM : Hid (addB (matS xss k) (totR (rowL xss k)) = false → adB xss = false) := ad_no_row hlt
      have HNZ : Hid (totR (rowL xss k) = 0 → adB xss = false) := fun h => by
        rw [← Bool.not_eq_true]; intro h2
        have := (adB_row h2 hlt).1; omega
      have HMN : Hid (matS xss (k+1) = matS xss k + totR (rowL xss k)) := rfl
      have HGD : Hid ((∀ j, j < (rowL xss k).length → 0 ≤ nth (rowL xss k) j) → 0 < totR (rowL xss k) → adTo xss (k+1)) := fun h1 h2 i hi => by
        by_cases e : i = k
        · rw [e]; exact ⟨h1, h2⟩
        · exact HAD.out i (by omega)
      obtain ⟨R, hR9⟩ : ∃ R, R = rowL xss k := ⟨_, rfl⟩
      rw [← hR9] at hc hrl hrow HRD HT HNR HNM HNZ HMN HGD
      obtain ⟨M, hM9⟩ : ∃ M, M = matS xss k := ⟨_, rfl⟩
      rw [← hM9] at hm0 hm1 HA cA HNM HMN
      clear hr hrt hR9 hM9 hR hA hp HAD
      obtain ⟨W1, hW1⟩ : ∃ x : World, x = wr := ⟨_, rfl⟩
      subst hW1
      go_wp2_with fail
      go_loopw [18] (fun i wr => ∃ (j : Nat) (u : Value), j ≤ R.length ∧ i = .int .i64 j ∧ Hid (∀ i, i < j → 0 ≤ nth R i) ∧ 0 ≤ totI R j ∧ totI R j ≤ 12 ∧ Var2 wr W1.heap.size (.int .i64 (totI R j)) u ∧ OwnI wr (W1.heap.size + 1) u (R.take j) ∧ Below W1.heap.size W1 wr) (fun i _ => R.length - (intOf i).toNat)
      case atStart => exact ⟨0, .slice none 0 0, Nat.zero_le _, rfl, fun j hj => by omega, by simp [totI], by simp [totI], Var2.new W1 _ _ _, by rw [List.take_zero]; exact OwnI.nil _ _, (by repeat (first | exact Below.refl _ _ | assumption | refine Below.alloc ?_ (by first | exact Nat.le_refl _ | (simp only [World.size_alloc, World.size_setCell, World.size_drew]; omega) | omega) _ | refine Below.setCell ?_ (by first | exact Nat.le_refl _ | (simp only [World.size_alloc, World.size_setCell, World.size_drew]; omega) | omega) _ | refine Below.drew ?_))⟩
      case round =>
        obtain ⟨j, u, hj, rfl, HNN, ht0, ht1, hQ, ho, hbq⟩ := hrel
        have hbqs := hbq.size
        have ⟨⟨zQ, cQ, dQ⟩, fQ, gQ⟩ := hQ
        have hR2 := HR.out.below hbq
        have hA2 := HA.out.below hbq
        have ⟨⟨zR2, cR2, dR2⟩, fR2, gR2⟩ := hR2
        have ⟨⟨zA2, cA2, dA2⟩, fA2, gA2⟩ := hA2
        have HR2 := Lib.hid hR2
        have HA2 := Lib.hid hA2
        clear hR2 hA2
        by_cases hlt2 : j < R.length
        · obtain ⟨b2, off2, rfl, hbl2, hc2⟩ := (HRD.out.below hbq).cell j hlt2
          have j1 : (j : Int) < (R.length : Int) := by omega
          have htk : R.take (j+1) = R.take j ++ [nth R j] := by
            rw [List.take_succ_eq_append_getElem hlt2, nth_get _ _ hlt2]
          have HTK := Lib.hid htk
          have hlj : (R.take j).length ≤ 1048576 := by rw [List.length_take]; omega
          have HTI : Hid (totI R (j+1) = totI R j + nth R j) := rfl
          have HNF := Lib.hid (HNR.out j hlt2 HNN.out)
          obtain ⟨Z, hZ⟩ : ∃ Z, Z = nth R j := ⟨_, rfl⟩
          have HZ := Lib.hid hZ
          rw [← hZ] at hc2 HTK HTI HNF
          obtain ⟨S, hS⟩ : ∃ S, S = totI R j := ⟨_, rfl⟩
          rw [← hS] at ht0 ht1 cQ hQ HTI HNF
          have HQ := Lib.hid hQ
          have HO := Lib.hid ho
          have hPut := iPut_any W1.heap.size S Z u (R.take j) wr HQ.out ⟨ht0, ht1⟩ HO.out hlj
          have HPUT := Lib.hid hPut
          clear htk hZ hS hQ ho hPut
          cases had : addB S Z
          · have H := HNF.out had
            have HF := Lib.hid had
            have HH := Lib.hid H
            clear had H
            go_wp2_with fail
            refine HPUT.out.mono ?_
            rintro e w5 ⟨rfl, v5, hv5, ho5, hb5⟩
            rw [HF.out]
            have b5 : Below W1.heap.size W1 w5 := hbq.trans hb5
            have hR5 := HR.out.below b5
            have hA5 := HA.out.below b5
            have ⟨⟨zR5, cR5, dR5⟩, fR5, gR5⟩ := hR5
            have ⟨⟨zA5, cA5, dA5⟩, fA5, gA5⟩ := hA5
            have bw5 := hb.trans (b5.mono hbs)
            clear hv5 ho5 hb5
            go_wp2_with fail
            have hR7 := hR5.set (.int .i64 M) (.slice av LK cv)
            have b7 := (bw5.setCell (p := ⟨w.heap.size, 0, none⟩) (Nat.le_refl _) (.int .i64 M)).setCell (p := ⟨w.heap.size, 1, none⟩) (Nat.le_refl _) (.slice av LK cv)
            refine bodyPost_ret (v := .tuple #[.agg #[.int .i64 M, .slice av LK cv], .bool false]) (by have ⟨⟨_, q1, q2⟩, _, _⟩ := hR7; simp [results, Try.results115, go_sem, q1, q2]) rfl ?_
            exact ⟨M, av, LK, cv, by rw [HH.out], (by intro h; rw [HH.out] at h; cases h), b7⟩
          · have hge := addB_iff.1 had
            have HF := Lib.hid had
            have HV := Lib.hid (add_ok had)
            clear had HNF
            go_wp2_with fail
            refine HPUT.out.mono ?_
            rintro e w5 ⟨rfl, v5, hv5, ho5, hb5⟩
            rw [HF.out]
            rw [HV.out] at hv5
            have b5 : Below W1.heap.size W1 w5 := hbq.trans hb5
            go_wp2_with fail
            go_roundw
            case rel =>
              refine ⟨j + 1, v5, by omega, by go_num, fun i hi => ?_, by rw [HTI.out]; omega, by rw [HTI.out]; omega, by rw [HTI.out]; exact hv5, by rw [HTK.out]; exact ho5, b5⟩
              by_cases e : i = j
              · rw [e, ← HZ.out]; omega
              · exact HNN.out i (by omega)
            case measure => simp [intOf]; omega
        · obtain rfl : j = R.length := by omega
          have HTR : Hid (totI R R.length = totR R) := rfl
          rw [HTR.out] at ht0 ht1 cQ hQ
          rw [List.take_length] at ho
          obtain ⟨au, cu, rfl⟩ := ho.form
          have HO := Lib.hid ho
          have HP2 := Lib.hid (HP.out.below hbq (Nat.le_refl _))
          obtain ⟨S, hS⟩ : ∃ S, S = totR R := ⟨_, rfl⟩
          have HSS := Lib.hid hS
          rw [← hS] at ht0 ht1 cQ hQ HNM HNZ HMN HGD
          have HQ := Lib.hid hQ
          have hlk : (xss.take k).length ≤ 1048576 := by rw [HTL.out]; have := HS.out; omega
          have bwq := hb.trans (hbq.mono hbs)
          clear hS hQ ho
          by_cases hz : S = 0
          · have hzz : (S == 0) = true := by simp [hz]
            have HH := Lib.hid (HNZ.out hz)
            clear hz
            go_wp2_with fail
            have hR7 := HR2.out.set (.int .i64 M) (.slice av LK cv)
            have b7 := (bwq.setCell (p := ⟨w.heap.size, 0, none⟩) (Nat.le_refl _) (.int .i64 M)).setCell (p := ⟨w.heap.size, 1, none⟩) (Nat.le_refl _) (.slice av LK cv)
            refine bodyPost_ret (v := .tuple #[.agg #[.int .i64 M, .slice av LK cv], .bool false]) (by have ⟨⟨_, q1, q2⟩, _, _⟩ := hR7; simp [results, Try.results115, go_sem, q1, q2]) rfl ?_
            exact ⟨M, av, LK, cv, by rw [HH.out], (by intro h; rw [HH.out] at h; cases h), b7⟩
          · have hzz : (S == 0) = false := by simp [hz]
            have hPut := iPutS_any (w.heap.size + 1) M S (.slice av LK cv) vl (xss.take k) R au cu (w.heap.size + 2) (W1.heap.size + 1) wr HA2.out ⟨hm0, hm1⟩ HP2.out HO.out (by omega) (by omega) (by omega) (fun c e => by have := HP.out.blk.1 c e; omega) (fun i hi c e => by have := HP.out.blk.2 i hi c e; omega) hlk
            rw [← HSS.out] at hPut
            have HPUT := Lib.hid hPut
            clear hPut
            cases had : addB M S
            · have HF := Lib.hid had
              have HH := Lib.hid (HNM.out had)
              clear had hz
              go_wp2_with fail
              refine HPUT.out.mono ?_
              rintro e w5 ⟨rfl, v5, hv5, ho5, hb5⟩
              rw [HF.out]
              have ⟨⟨zA5, cA5, dA5⟩, fA5, gA5⟩ := hv5
              have hR5 : Var2 w5 w.heap.size (.int .i64 0) (.slice none 0 0) := ⟨⟨by have := hb5.size; omega, (hb5.cell (p := ⟨w.heap.size, 0, none⟩) (show w.heap.size < w.heap.size + 1 by omega)).trans cR2, (hb5.cell (p := ⟨w.heap.size, 1, none⟩) (show w.heap.size < w.heap.size + 1 by omega)).trans dR2⟩, (hb5.frozen (p := ⟨w.heap.size, 0, none⟩) (show w.heap.size < w.heap.size + 1 by omega)).trans fR2, (hb5.frozen (p := ⟨w.heap.size, 1, none⟩) (show w.heap.size < w.heap.size + 1 by omega)).trans gR2⟩
              have ⟨⟨zR5, cR5, dR5⟩, fR5, gR5⟩ := hR5
              have bw5 := bwq.trans (hb5.mono (by omega : w.heap.size ≤ w.heap.size + 1))
              obtain ⟨D, hD⟩ : ∃ D, D = addV M S := ⟨_, rfl⟩
              rw [← hD] at cA5
              obtain ⟨a5, c5, e5⟩ := ho5.form
              obtain ⟨L5, hL5⟩ : ∃ L5, L5 = (xss.take k ++ [R]).length := ⟨_, rfl⟩
              rw [← hL5] at e5
              rw [e5] at dA5
              clear hL5 e5
              clear hv5 ho5 hb5 hD
              go_wp2_with fail
              have hR7 := hR5.set (.int .i64 D) (.slice a5 L5 c5)
              have b7 := (bw5.setCell (p := ⟨w.heap.size, 0, none⟩) (Nat.le_refl _) (.int .i64 D)).setCell (p := ⟨w.heap.size, 1, none⟩) (Nat.le_refl _) (.slice a5 L5 c5)
              refine bodyPost_ret (v := .tuple #[.agg #[.int .i64 D, .slice a5 L5 c5], .bool false]) (by have ⟨⟨_, q1, q2⟩, _, _⟩ := hR7; simp [results, Try.results115, go_sem, q1, q2]) rfl ?_
              exact ⟨D, a5, L5, c5, by rw [HH.out], (by intro h; rw [HH.out] at h; cases h), b7⟩
            · have hge := addB_iff.1 had
              have HF := Lib.hid had
              have HV := Lib.hid (add_ok had)
              clear had
              go_wp2_with fail
              refine HPUT.out.mono ?_
              rintro e w5 ⟨rfl, v5, hv5, ho5, hb5⟩
              rw [HF.out]
              rw [HV.out] at hv5
              have hR5 : Var2 w5 w.heap.size (.int .i64 0) (.slice none 0 0) := ⟨⟨by have := hb5.size; omega, (hb5.cell (p := ⟨w.heap.size, 0, none⟩) (show w.heap.size < w.heap.size + 1 by omega)).trans cR2, (hb5.cell (p := ⟨w.heap.size, 1, none⟩) (show w.heap.size < w.heap.size + 1 by omega)).trans dR2⟩, (hb5.frozen (p := ⟨w.heap.size, 0, none⟩) (show w.heap.size < w.heap.size + 1 by omega)).trans fR2, (hb5.frozen (p := ⟨w.heap.size, 1, none⟩) (show w.heap.size < w.heap.size + 1 by omega)).trans gR2⟩
              have bw5 := bwq.trans (hb5.mono (by omega : w.heap.size ≤ w.heap.size + 1))
              have HG2 := Lib.hid (HGD.out HNN.out (by omega))
              go_wp2_with fail
              go_roundw
              case rel => exact ⟨k + 1, v5, _, by omega, by go_num, HG2.out, by rw [HMN.out]; omega, by rw [HMN.out]; omega, hR5, by rw [HMN.out]; exact hv5, by rw [HT.out]; exact ho5, bw5⟩
              case measure => simp [intOf]; omega
    · obtain rfl : k = xss.length := by omega
      have HH : Hid (adB xss = true) := adB_iff.2 ⟨HAD.out, hm1⟩
      obtain ⟨M, hM9⟩ : ∃ M, M = matS xss xss.length := ⟨_, rfl⟩
      have HM := Lib.hid hM9
      rw [← hM9] at hm0 hm1 HA cA
      clear hM9 hR hA hp
      go_wp2_with fail
      have hR7 := HR.out.set (.int .i64 M) (.slice av LK cv)
      have b7 := (hb.setCell (p := ⟨w.heap.size, 0, none⟩) (Nat.le_refl _) (.int .i64 M)).setCell (p := ⟨w.heap.size, 1, none⟩) (Nat.le_refl _) (.slice av LK cv)
      refine bodyPost_ret (v := .tuple #[.agg #[.int .i64 M, .slice av LK cv], .bool true]) (by have ⟨⟨_, q1, q2⟩, _, _⟩ := hR7; simp [results, Try.results115, go_sem, q1, q2]) rfl ?_
      refine ⟨M, av, LK, cv, by rw [HH.out], fun _ => ⟨HM.out, vl, ?_⟩, b7⟩
      have h := HP.out
      rw [List.take_length] at h
      have hset : ∀ (p : Addr) (u : Value) (w9 : World), p.block = w.heap.size → SumP w9 (w.heap.size + 2) (.slice av LK cv) vl xss → SumP (w9.setCell p u) (w.heap.size + 2) (.slice av LK cv) vl xss := fun p u w9 e h =>
        ⟨ownsRow_setCell_below h.own (by rw [e]; omega) u, h.vlen, fun k hk => (h.row k hk).setBelow (by rw [e]; omega) u, h.apart, h.pair⟩
      exact (hset _ _ _ rfl (hset _ _ _ rfl h)).mono (by omega)

end Go.Proofs.Ytkpfjemlldiogaa.matchingsAreMatrices
