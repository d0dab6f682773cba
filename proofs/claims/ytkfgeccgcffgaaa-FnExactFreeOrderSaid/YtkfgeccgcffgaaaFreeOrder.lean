/- PROVED: the law FnExactFreeOrder returns true for every input, and each of its arguments reads afterwards as before. No conditions. -/
import Derived.Test.YtkfgeccgcffgaaaRows
import Derived.WalkKit
import Derived.WalkSpells
import Derived.WalkLawsBesides
import Derived.Deep.QuietTactic
import Derived.BigQuiet
import Derived.ProofKit
import Derived.OpenShut
import Derived.ShutString
import Derived.ChangeOld
import Derived.Below
import Derived.Lib.SmallJoins
import Derived.Lib.Hide
import Derived.Maps.AppendAt
import Derived.Deep.AppendLies
import Derived.Deep.RegionHeld3
import Derived.Lib.SliceRun
import Derived.Laws.MakeOwn
import Derived.Laws.OwnMore
import Derived.Deep.DeepCutAuto
import Derived.Test.YtkfgeccgcffgaaaFreeOrderP1
namespace Go.Proofs.Ytkfgeccgcffgaaa.freeOrder
open Go Go.RowKit
set_option linter.unusedVariables false
set_option linter.unusedSimpArgs false
set_option maxHeartbeats 400000
/-- a row of a list of rows -/
def rowL (xss : List (List Int)) (k : Nat) : List Int := xss.getD k []
/-- how many numbers the first k rows have -/
def totS (xss : List (List Int)) : Nat → Nat
  | 0 => 0
  | k+1 => totS xss k + (rowL xss k).length
theorem totS_mono {xss : List (List Int)} {j : Nat} : ∀ {k : Nat}, j ≤ k → totS xss j ≤ totS xss k
  | 0, h => by obtain rfl : j = 0 := by omega
               exact Nat.le_refl _
  | k+1, h => by
    by_cases e : j = k + 1
    · rw [e]; exact Nat.le_refl _
    · have := totS_mono (xss := xss) (j := j) (k := k) (by omega)
      simp only [totS]; omega
theorem row_tot {xss : List (List Int)} {k n : Nat} (h : k < n) : (rowL xss k).length ≤ totS xss n := by
  have := totS_mono (xss := xss) (j := k + 1) (k := n) (by omega)
  simp only [totS] at this
  omega
/-- the slice of slices at an address reads as a list of rows -/
structure RdS (w : World) (a : Option Addr) (xss : List (List Int)) : Prop where
  len : xss.length ≤ 9223372036854775807
  row : ∀ k, k < xss.length → ∃ b off a' cap', a = some ⟨b, off, none⟩ ∧ b < w.heap.size ∧ w.cell? ⟨b, off + k, none⟩ = some (.slice a' (rowL xss k).length cap') ∧ Rd w a' (rowL xss k)
theorem RdS.below {w w' : World} {a : Option Addr} {xss : List (List Int)} (h : RdS w a xss) (hb : Below w.heap.size w w') : RdS w' a xss :=
  ⟨h.len, fun k hk => by
    obtain ⟨b, off, a', cap', e, hl, hc, hr⟩ := h.row k hk
    exact ⟨b, off, a', cap', e, Nat.lt_of_lt_of_le hl hb.size, (hb.cell (World.block_lt_of_cell? _ _ hc)).trans hc, hr.below hb⟩⟩
theorem ownsRow_bel {w w' : World} {B B' : Nat} {e : TypeId} {size : Nat} {v : Value} {n : Nat} {xs : List Value} (h : w.ownsRow B e size v n xs) (hb : Below B' w w') (hB : w.heap.size ≤ B') : w'.ownsRow B e size v n xs := by
  refine ⟨h.1, ?_⟩
  rcases h.2 with hn | ⟨g, cap, cur, e, hb', hg, rest⟩
  · exact .inl hn
  · refine .inr ⟨g, cap, cur, e, hb', ?_, rest⟩
    rw [hb.block g (by have := (Array.getElem?_eq_some_iff.1 hg).1; omega)]
    exact hg
def valAt (vl : List Value) (k : Nat) : Value := vl.getD k (.slice none 0 0)
/-- a slice of slices that owns its rows: the outer block is g -/
structure OwnS (w : World) (B g : Nat) (vl : List Value) (xss : List (List Int)) : Prop where
  lo : B ≤ g
  hi : g < w.heap.size
  max : xss.length ≤ 9223372036854775807
  cell : ∀ k, k < xss.length → w.cell? ⟨g, k, none⟩ = some (valAt vl k)
  row : ∀ k, k < xss.length → OwnI w (g + 1) (valAt vl k) (rowL xss k)
  apart : ∀ j k, j < k → k < xss.length → ∀ c d, (valAt vl j).ownBlock = some c → (valAt vl k).ownBlock = some d → c < d
theorem OwnS.rd {w : World} {B g : Nat} {vl : List Value} {xss : List (List Int)} (h : OwnS w B g vl xss) : RdS w (some ⟨g, 0, none⟩) xss :=
  ⟨h.max, fun k hk => by
    have h1 := h.row k hk
    have h2 := h.cell k hk
    obtain ⟨a', cap', e⟩ := h1.form
    rw [e] at h1 h2
    exact ⟨g, 0, a', cap', rfl, h.hi, by rw [Nat.zero_add]; exact h2, h1.rd⟩⟩
theorem OwnS.below {w w' : World} {B B' g : Nat} {vl : List Value} {xss : List (List Int)} (h : OwnS w B g vl xss) (hb : Below B' w w') (hB : w.heap.size ≤ B') : OwnS w' B g vl xss :=
  ⟨h.lo, Nat.lt_of_lt_of_le h.hi hb.size, h.max, fun k hk => (hb.cell (p := ⟨g, k, none⟩) (Nat.lt_of_lt_of_le h.hi hB)).trans (h.cell k hk), fun k hk => (h.row k hk).below hb hB, h.apart⟩
theorem OwnS.cut {w : World} {B g : Nat} {vl : List Value} {xss : List (List Int)} (h : OwnS w B g vl xss) {U : Nat} (hU : w.heap.size ≤ U) : B ≤ g ∧ ∀ k, k < xss.length → ∀ c, (valAt vl k).ownBlock = some c → g < c ∧ c < U :=
  ⟨h.lo, fun k hk c e => by have := (h.row k hk).lt c e; omega⟩
/-- only blocks of a stretch are written -/
structure TouchS (lo hi : Nat) (w w' : World) : Prop where
  os : w'.os = w.os
  tape : w'.tape = w.tape
  output : w'.output = w.output
  size : w.heap.size ≤ w'.heap.size
  block : ∀ k, k < w.heap.size → k < lo ∨ hi ≤ k → w'.heap[k]? = w.heap[k]?
theorem TouchS.refl (lo hi : Nat) (w : World) : TouchS lo hi w w := ⟨rfl, rfl, rfl, Nat.le_refl _, fun _ _ _ => rfl⟩
theorem TouchS.step {lo hi : Nat} {w w1 w2 : World} {r : Option Nat} (h : TouchS lo hi w w1) (hg : w1.grownBy w2 r) (hr : ∀ c, r = some c → lo ≤ c ∧ c < hi) : TouchS lo hi w w2 :=
  ⟨hg.os.trans h.os, hg.tape.trans h.tape, hg.output.trans h.output, Nat.le_trans h.size hg.size, fun k hk hn => (hg.block k (by have := h.size; omega) (fun e => by have := hr k e.symm; omega)).trans (h.block k hk hn)⟩
theorem TouchS.below {lo hi B : Nat} {w w' : World} (h : TouchS lo hi w w') (hB : B ≤ lo) (hs : B ≤ w.heap.size) : Below B w w' :=
  ⟨h.os, h.tape, h.output, h.size, fun k hk => h.block k (by omega) (by omega)⟩
theorem TouchS.other {lo hi : Nat} {w w' : World} (h : TouchS lo hi w w') (b : Nat) (hb : b < lo ∨ hi ≤ b) (hs : b < w.heap.size) : ∀ r, w'.heap[b]? = w.heap[b]? ∧ (r = some b → True) := fun _ => ⟨h.block b hs hb, fun _ => trivial⟩
theorem Box2.touch {lo hi : Nat} {w w' : World} {b : Nat} {u v : Value} (h : Box2 w b u v) (ht : TouchS lo hi w w') (hb : b < lo ∨ hi ≤ b) : Box2 w' b u v :=
  ⟨Nat.lt_of_lt_of_le h.1 ht.size, (World.cell?_of_block (w := w) (a := ⟨b, 0, none⟩) (ht.block b h.1 hb)).trans h.2.1, (World.cell?_of_block (w := w) (a := ⟨b, 1, none⟩) (ht.block b h.1 hb)).trans h.2.2⟩
theorem OwnI.touch {lo hi : Nat} {w w' : World} {B : Nat} {v : Value} {xs : List Int} (h : OwnI w B v xs) (ht : TouchS lo hi w w') (hb : ∀ c, v.ownBlock = some c → c < lo ∨ hi ≤ c) : OwnI w' B v xs := by
  refine ⟨h.1, ?_⟩
  rcases h.2 with hn | ⟨g, cap, cur, e, hb', hg, rest⟩
  · exact .inl hn
  · refine .inr ⟨g, cap, cur, e, hb', ?_, rest⟩
    rw [ht.block g (Array.getElem?_eq_some_iff.1 hg).1 (hb g (by rw [e]; rfl))]
    exact hg

/-- a block that begins with this cell -/
def Box1 (w : World) (b : Nat) (u : Value) : Prop := b < w.heap.size ∧ w.cell? ⟨b, 0, none⟩ = some u
theorem Box1.below {w w' : World} {b : Nat} {u : Value} (h : Box1 w b u) (hb : Below w.heap.size w w') : Box1 w' b u :=
  ⟨Nat.lt_of_lt_of_le h.1 hb.size, (hb.cell (p := ⟨b, 0, none⟩) h.1).trans h.2⟩
theorem Box1.new (w : World) (u : Value) (t : TypeId) : Box1 (w.alloc (.cells #[u] t)) w.heap.size u := ⟨by simp, by simp⟩
theorem Box1.kept {w w' : World} {b : Nat} {u : Value} {row : Option Nat} (h : Box1 w b u) (hg : w.grownBy w' row) (hne : some b ≠ row) : Box1 w' b u :=
  ⟨Nat.lt_of_lt_of_le h.1 hg.size, hg.cell h.2 hne⟩
theorem Box1.touch {lo hi : Nat} {w w' : World} {b : Nat} {u : Value} (h : Box1 w b u) (ht : TouchS lo hi w w') (hb : b < lo ∨ hi ≤ b) : Box1 w' b u :=
  ⟨Nat.lt_of_lt_of_le h.1 ht.size, (World.cell?_of_block (w := w) (a := ⟨b, 0, none⟩) (ht.block b h.1 hb)).trans h.2⟩
/-- a block that begins with this cell, which may be written -/
def Var1 (w : World) (b : Nat) (u : Value) : Prop := Box1 w b u ∧ w.frozen? ⟨b, 0, none⟩ = false
theorem Var1.new (w : World) (u : Value) (t : TypeId) : Var1 (w.alloc (.cells #[u] t)) w.heap.size u := ⟨Box1.new w u t, by simp⟩
theorem Var1.below {w w' : World} {b : Nat} {u : Value} (h : Var1 w b u) (hb : Below w.heap.size w w') : Var1 w' b u :=
  ⟨h.1.below hb, (hb.frozen (p := ⟨b, 0, none⟩) h.1.1).trans h.2⟩
theorem Var1.alloc {w : World} {b : Nat} {u : Value} (h : Var1 w b u) (o : Obj) : Var1 (w.alloc o) b u := h.below ((Below.refl _ _).alloc (Nat.le_refl _) o)
theorem Var1.kept {w w' : World} {b : Nat} {u : Value} {row : Option Nat} (h : Var1 w b u) (hg : w.grownBy w' row) (hne : some b ≠ row) : Var1 w' b u :=
  ⟨h.1.kept hg hne, (World.frozen?_of_block (w := w) (a := ⟨b, 0, none⟩) (hg.block b h.1.1 hne)).trans h.2⟩
theorem Var1.set {w : World} {b : Nat} {u : Value} (h : Var1 w b u) (x : Value) : Var1 (w.setCell ⟨b, 0, none⟩ x) b x :=
  ⟨⟨by simpa using h.1.1, World.cell?_setCell_same _ _ _ h.1.2⟩, by simpa using h.2⟩
theorem Var1.other {w : World} {b : Nat} {u : Value} (h : Var1 w b u) {p : Addr} (x : Value) (hne : b ≠ p.block) : Var1 (w.setCell p x) b u :=
  h.kept (grown_set w p x) (by simpa using hne)

/-- what make([]int, n) lays -/
def madeZ (n : Nat) : Array Value := madeCells (Value.int .i64 0).cells (n * 1)
theorem make_ints (n : Nat) (h : n ≤ 1024) (W : World) : (Instr.makeSlice 22 (.int .i64 (n : Int)) (.int .i64 (n : Int))).run Try.prog W = .ok (.slice (some ⟨W.heap.size, 0, none⟩) n n) (W.alloc (.cells (madeZ n) 3)) := by
  obtain ⟨i0, hi, hz0, hz1, hz2⟩ := info_parts infoInt
  have hr := run_make (P := Try.prog) W 22 3 i0 (.int .i64 0) Try.underlying22 hi hz0 .i64 .i64 n n (by omega) (Int.le_refl _) (by rw [hz2]; omega) (by omega)
  simp only [Int.toNat_natCast, hz1] at hr
  exact hr
theorem own_made (W : World) (B n : Nat) (h : n ≤ 1024) (hB : B ≤ W.heap.size) : OwnI (W.alloc (.cells (madeZ n) 3)) B (.slice (some ⟨W.heap.size, 0, none⟩) n n) (List.replicate n 0) := by
  have := World.ownsRow_lit W (e := 3) (size := 1) (madeZ n) n hB (by unfold maxLen; omega) (size_madeCells _ _)
  unfold OwnI
  rw [List.length_replicate, List.map_replicate]
  have e : (madeZ n).toList = List.replicate n (Value.int .i64 0) := by unfold madeZ; rw [Nat.mul_one]; exact toList_madeCells_one _ n
  rw [e] at this
  exact this

/-- a made row and the box that holds it -/
def MkR (W wx : World) (R : Nat) (s : Value) : Prop := ∃ g p : Nat, s = .pointer (some ⟨p, 0, none⟩) ∧ Var2 wx p (.int .i64 (R : Int)) (.slice (some ⟨g, 0, none⟩) R R) ∧ OwnI wx W.heap.size (.slice (some ⟨g, 0, none⟩) R R) (List.replicate R 0) ∧ g ≠ p ∧ W.heap.size ≤ p ∧ Below W.heap.size W wx
theorem mkR1 (W : World) (R : Nat) (h : R ≤ 1024) : MkR W (((W.alloc (.cells (madeZ R) 3)).alloc (.cells #[.int .i64 (R : Int), .slice (some ⟨W.heap.size, 0, none⟩) R R] 46)).drew) R (.pointer (some ⟨W.heap.size + 1, 0, none⟩)) := by
  have v := Var2.new (W.alloc (.cells (madeZ R) 3)) (.int .i64 (R : Int)) (.slice (some ⟨W.heap.size, 0, none⟩) R R) 46
  rw [World.size_alloc] at v
  exact ⟨W.heap.size, W.heap.size + 1, rfl, v.below ((Below.refl _ _).drew), ((own_made W W.heap.size R h (Nat.le_refl _)).alloc _).below ((Below.refl _ _).drew) (Nat.le_refl _), by omega, by omega, (((Below.refl _ _).alloc (Nat.le_refl _) _).alloc (by simp) _).drew⟩
theorem mkR2 (W : World) (R : Nat) (h : R ≤ 1024) : MkR W (((W.alloc (.cells #[.int .i64 (R : Int), .slice (some ⟨W.heap.size + 1, 0, none⟩) R R] 46)).alloc (.cells (madeZ R) 3)).drew) R (.pointer (some ⟨W.heap.size, 0, none⟩)) := by
  have v := (Var2.new W (.int .i64 (R : Int)) (.slice (some ⟨W.heap.size + 1, 0, none⟩) R R) 46).alloc (.cells (madeZ R) 3)
  have o := own_made (W.alloc (.cells #[.int .i64 (R : Int), .slice (some ⟨W.heap.size + 1, 0, none⟩) R R] 46)) W.heap.size R h (by simp)
  rw [World.size_alloc] at o
  exact ⟨W.heap.size + 1, W.heap.size, rfl, v.below ((Below.refl _ _).drew), o.below ((Below.refl _ _).drew) (Nat.le_refl _), by omega, Nat.le_refl _, (((Below.refl _ _).alloc (Nat.le_refl _) _).alloc (by simp) _).drew⟩
set_option maxRecDepth 100000 in
set_option maxHeartbeats 4000000 in
theorem iFree_any (n m : Int) (a : Option Addr) (xs : List Int) (cap : Nat) (b : Option Addr) (cs : List Int) (cap2 : Nat) (w : World) (hn : -9223372036854775808 ≤ n ∧ n ≤ 9223372036854775807) (hm : -9223372036854775808 ≤ m ∧ m ≤ 9223372036854775807) (hx : Rd w a xs) (hy : Rd w b cs) :
    Calls Try.prog 45 #[.agg #[.int .i64 n, .int .i64 m, .slice a xs.length cap], .slice b cs.length cap2] w fun e w' => ∃ a' cap', e = .returned (.tuple #[.slice a' (frL n m xs cs).length cap', .bool (frO n m xs cs)]) ∧ OwnI w' w.heap.size (.slice a' (frL n m xs cs).length cap') (frL n m xs cs) ∧ Below w.heap.size w w' := by
  obtain ⟨i0, hi, hz0, hz1, hz2⟩ := info_parts infoInt
  have hb0 : Below w.heap.size w (w.alloc (.cells #[.int .i64 n, .int .i64 m, .slice a xs.length cap] 27)) := (by repeat (first | exact Below.refl _ _ | assumption | refine Below.alloc ?_ (by first | exact Nat.le_refl _ | (simp only [World.size_alloc, World.size_setCell, World.size_drew]; omega) | omega) _ | refine Below.setCell ?_ (by first | exact Nat.le_refl _ | (simp only [World.size_alloc, World.size_setCell, World.size_drew]; omega) | omega) _ | refine Below.drew ?_))
  cases hr : feB n m xs cs
  · have ⟨h1, h2⟩ := frO_no hr
    have H1 := Lib.hid h1
    have H2 := Lib.hid h2
    have HM := Lib.hid hr
    clear hr h1 h2
    go_enter Try.func45, Try.ntmps45
    go_wp2_with fail
    refine (areEmpty_any n m _ _ _ _ _ _ _ hn hm (hx.below hb0) (hy.below hb0)).mono ?_
    rw [HM.out]
    rintro e w1 ⟨rfl, hb⟩
    have b1 : Below w.heap.size w w1 := hb0.trans (hb.mono (by simp))
    go_wp2_with fail
    refine bodyPost_ret (v := .tuple #[.slice none 0 0, .bool false]) (by simp [results, Try.results45, go_sem]) rfl ?_
    exact ⟨none, 0, by rw [H1.out, H2.out]; rfl, by rw [H2.out]; exact OwnI.nil _ _, b1⟩
  · obtain ⟨R, C, hR, hC, hp⟩ := feB_p hr
    subst hR hC
    have ⟨h1, h2⟩ := frO_yes hr
    have hpos : 0 < xs.length := by have := hp.t.r0; have := hp.t.len; omega
    obtain ⟨bA, oA, rfl, _, _⟩ := hx.cell 0 hpos
    have r0 : 1 ≤ R := by have := hp.t.r0; omega
    have r1 : R ≤ 6 := by have := hp.t.r1; omega
    have c0 : 1 ≤ C := by have := hp.t.c0; omega
    have c1 : C ≤ 6 := by have := hp.t.c1; omega
    have hl : xs.length = R := by have := hp.t.len; omega
    have hlen := hy.len
    have H1 := Lib.hid h1
    have H2 := Lib.hid h2
    have HM := Lib.hid hr
    have HP := Lib.hid hp
    have HL := Lib.hid hl
    have ht : tabB R C xs = true := by simp only [feB, Bool.and_eq_true] at hr; exact hr.1
    have E1 : Hid (mtR R C xs = C) := by simp [Hid, mtR, ht]
    have E2 : Hid (mtC R C xs = R) := by simp [Hid, mtC, ht]
    have E3 : Hid (mtL R C xs = tbL (fun r c => hasB (nth xs c) r) C R) := by simp [Hid, mtL, ht]
    have HT := Lib.hid ht
    have HCP : Hid (∀ q, q < cs.length → ∃ k : Nat, nth cs q = (k : Int) ∧ k < R * C) := fun q hq => by
      have h1 := hp.pos q hq
      have h2 := hp.lt q hq
      exact ⟨(nth cs q).toNat, by omega, by omega⟩
    have HRC : Hid (R * C ≤ 36) := Nat.mul_le_mul r1 c1
    clear hr h1 h2 hp hl ht
    go_enter Try.func45, Try.ntmps45
    go_wp2_with fail
    refine (areEmpty_any _ _ _ _ _ _ _ _ _ hn hm (hx.below hb0) (hy.below hb0)).mono ?_
    rw [HM.out]
    rintro e w1 ⟨rfl, hb⟩
    have b1 : Below w.heap.size w w1 := hb0.trans (hb.mono (by simp))
    have A1 := (Box3.new w (.int .i64 (R : Int)) (.int .i64 (C : Int)) (.slice (some ⟨bA, oA, none⟩) xs.length cap) 27).below hb
    have ⟨zA, cA, dA, eA⟩ := A1
    have b1s := b1.size
    clear hb hb0
    go_wp2_with fail
    refine (iMirTab_any _ _ _ _ _ _ hn hm (hx.below b1)).mono ?_
    rintro e w2 ⟨a2, c2, rfl, ho2, hb2⟩
    rw [E1.out, E2.out, E3.out, tbL_len, HT.out]
    rw [E3.out, tbL_len] at ho2
    have b2 := b1.trans (hb2.mono b1s)
    have A2 := A1.below hb2
    have ⟨zA2, cA2, dA2, eA2⟩ := A2
    have b2s := b2.size
    have HO2 := Lib.hid ho2
    clear hb2 A1 cA dA eA ho2
    go_wp2_with fail
    have B3 := Box3.new w2 (.int .i64 (C : Int)) (.int .i64 (R : Int)) (.slice a2 C c2) 27
    have ba : Below w2.heap.size w2 (w2.alloc (.cells #[.int .i64 (C : Int), .int .i64 (R : Int), .slice a2 C c2] 27)) := (by repeat (first | exact Below.refl _ _ | assumption | refine Below.alloc ?_ (by first | exact Nat.le_refl _ | (simp only [World.size_alloc, World.size_setCell, World.size_drew]; omega) | omega) _ | refine Below.setCell ?_ (by first | exact Nat.le_refl _ | (simp only [World.size_alloc, World.size_setCell, World.size_drew]; omega) | omega) _ | refine Below.drew ?_))
    have A3 := A2.below ba
    have HO3 := Lib.hid (HO2.out.below ba (Nat.le_refl _))
    have b3 := b2.trans (ba.mono b2s)
    obtain ⟨w3, hw3⟩ : ∃ x : World, x = w2.alloc (.cells #[.int .i64 (C : Int), .int .i64 (R : Int), .slice a2 C c2] 27) := ⟨_, rfl⟩
    rw [← hw3] at B3 A3 HO3 b3 ⊢
    have ⟨zA3, cA3, dA3, eA3⟩ := A3
    have b3s := b3.size
    have hz23 : w2.heap.size < w3.heap.size := B3.1
    have HA3 := Lib.hid A3
    have HB3 := Lib.hid B3
    clear ba hw3 A2 cA2 dA2 eA2 A3 B3
    have hmk := make_ints R (by omega)
    go_cut [8] (fun s8 wx => MkR w3 wx R s8)
    case first =>
      go_region
      all_goals
        go_wp2_with fail
        go_meet
        first | exact mkR1 _ _ (by omega) | exact mkR2 _ _ (by omega)
    case rest =>
      obtain ⟨g, p, rfl, hV, hO, hgp, hpz, hbc⟩ := hcut
      have hgz : w3.heap.size ≤ g := (hO.lt g rfl).1
      have HAc := Lib.hid (HA3.out.below hbc)
      have HBc := Lib.hid (HB3.out.below hbc)
      have HRm := Lib.hid ((HO3.out.rd).below hbc)
      have b4 := b3.trans (hbc.mono b3s)
      have HS := Lib.hid (And.intro hO (And.intro hV b4))
      clear hO hV hbc cA3 dA3 eA3 hmk b4
      obtain ⟨wz, hwz⟩ : ∃ x : World, x = wc := ⟨_, rfl⟩
      subst hwz
      go_wp2_with fail
      go_loopw [32] (fun i wr => ∃ q : Nat, q ≤ cs.length ∧ i = .int .i64 q ∧ OwnI wr w3.heap.size (.slice (some ⟨g, 0, none⟩) R R) (foL xs cs C R q) ∧ Var2 wr p (.int .i64 (R : Int)) (.slice (some ⟨g, 0, none⟩) R R) ∧ Below w.heap.size w wr ∧ Box3 wr w.heap.size (.int .i64 (R : Int)) (.int .i64 (C : Int)) (.slice (some ⟨bA, oA, none⟩) xs.length cap) ∧ Box3 wr w2.heap.size (.int .i64 (C : Int)) (.int .i64 (R : Int)) (.slice a2 C c2) ∧ Rd wr a2 (tbL (fun r c => hasB (nth xs c) r) C R)) (fun i _ => cs.length - (intOf i).toNat)
      case atStart => exact ⟨0, Nat.zero_le _, rfl, by rw [foL_zero]; exact HS.out.1, HS.out.2.1, HS.out.2.2, HAc.out, HBc.out, HRm.out⟩
      case round =>
        obtain ⟨q, hq, rfl, hO, hV, hb, hA, hB, hR⟩ := hrel
        have HOq := Lib.hid hO
        have HVq := Lib.hid hV
        have HBb := Lib.hid hb
        have HAq := Lib.hid hA
        have HBq := Lib.hid hB
        have HRq := Lib.hid hR
        have hbs := hb.size
        by_cases hlt : q < cs.length
        · obtain ⟨b5, off5, rfl, hbl5, hc5⟩ := (hy.below hb).cell q hlt
          obtain ⟨c, hce, hcl⟩ := HCP.out q hlt
          have hc36 : c ≤ 36 := by have := HRC.out; omega
          rw [hce] at hc5
          have hr : c / C < R := Nat.div_lt_of_lt_mul (by rw [Nat.mul_comm]; exact hcl)
          have hd : c % C < C := Nat.mod_lt _ (by omega)
          have HPL := Lib.hid (fun w' => tabPlace_any (R : Int) C (some ⟨bA, oA, none⟩) xs.length cap c w' (by omega) c1 hc36)
          obtain ⟨r, hrr⟩ : ∃ r, r = c / C := ⟨_, rfl⟩
          obtain ⟨d, hdd⟩ : ∃ d, d = c % C := ⟨_, rfl⟩
          have HST : Hid ((foL xs cs C R q).set r ((rowBits (foT xs cs C q r) R ||| rowBits (fun r => hasB (nth xs r) (d : Int)) R : Nat) : Int) = foL xs cs C R (q+1)) := foL_step (by omega) (by rw [hce, Int.toNat_natCast, hrr]) (by rw [hce, Int.toNat_natCast, hdd])
          rw [← hrr] at hr
          rw [← hdd] at hd
          simp only [← hrr, ← hdd] at HPL
          have ⟨zA, cA, dA, eA⟩ := hA
          clear hrr hdd hce hcl hO hV hb hA hB hR
          go_wp2_with fail
          refine (HPL.out _).mono ?_
          rintro e w6 ⟨rfl, hb6⟩
          have b6 := HBb.out.trans (hb6.mono hbs)
          have O6 := HOq.out.below hb6 (Nat.le_refl _)
          have V6 := HVq.out.below hb6
          have B6 := HBq.out.below hb6
          have R6 := HRq.out.below hb6
          have A6 := HAq.out.below hb6
          have ⟨ci, fi⟩ := O6.at' (by rw [foL_len]) (i := r) (by rw [foL_len]; exact hr)
          rw [foL_nth hr] at ci
          obtain ⟨b7, off7, rfl, hbl7, hc7⟩ := R6.cell d (by rw [tbL_len]; exact hd)
          rw [show nth (tbL (fun r c => hasB (nth xs c) r) C R) d = ((rowBits (fun r => hasB (nth xs r) (d : Int)) R : Nat) : Int) from fmap_nth _ hd] at hc7
          have hs1 := rowBits_small (foT xs cs C q r) (k := R) r1
          have hs2 := rowBits_small (fun r => hasB (nth xs r) (d : Int)) (k := R) r1
          have hor := or_nat (rowBits (foT xs cs C q r) R) (rowBits (fun r => hasB (nth xs r) (d : Int)) R) (by omega) (by omega)
          have hput := O6.put (by rw [foL_len]) r ((rowBits (foT xs cs C q r) R ||| rowBits (fun r => hasB (nth xs r) (d : Int)) R : Nat) : Int)
          rw [HST.out] at hput
          have HP6 := Lib.hid hput
          have HOR := Lib.hid hor
          have HV6 := Lib.hid V6
          have HB6 := Lib.hid B6
          have HR6 := Lib.hid R6
          have HA6 := Lib.hid A6
          have ⟨⟨zV, cV, dV⟩, fV, gV⟩ := V6
          have ⟨zB, cB, dB, eB⟩ := B6
          have hg2 : w2.heap.size ≠ g := by omega
          have hg1 : w.heap.size ≠ g := by omega
          have r0' : (0 : Int) ≤ (r : Int) := by omega
          have r1' : (r : Int) < (R : Int) := by omega
          have d0 : (0 : Int) ≤ (d : Int) := by omega
          have d1 : (d : Int) < (C : Int) := by omega
          have hRg : Hid (∀ (u : Value), Rd (w6.setCell ⟨g, r, none⟩ u) (some ⟨b7, off7, none⟩) (tbL (fun r c => hasB (nth xs c) r) C R)) := fun u => by
            have hb7 : b7 < w3.heap.size := by
              have h1 := HO3.out.blk b7 off7 none rfl
              exact h1.2
            exact R6.same (by simp) (fun b off e => by
              simp only [Option.some.injEq, Addr.mk.injEq, and_true] at e
              obtain ⟨rfl, rfl⟩ := e
              exact Below.heap_setCell _ _ _ _ (by show b7 ≠ g; omega))
          clear hs1 hs2 hor hput O6 V6 B6 R6 A6 hb6 cA dA eA zA
          go_wp2_with fail
          go_region
          all_goals
            go_wp2_with fail
            go_roundw
            case rel =>
              rw [HOR.out]
              exact ⟨q + 1, by omega, by go_num, HP6.out.1.below ((Below.refl _ _).drew) (Nat.le_refl _), (HV6.out.other (p := ⟨g, r, none⟩) _ (show p ≠ g by omega)).below ((Below.refl _ _).drew), (b6.setCell (p := ⟨g, r, none⟩) (show w.heap.size ≤ g by omega) _).drew, (HA6.out.set (p := ⟨g, r, none⟩) _ hg1).below ((Below.refl _ _).drew), (HB6.out.set (p := ⟨g, r, none⟩) _ hg2).below ((Below.refl _ _).drew), (hRg.out _).below ((Below.refl _ _).drew)⟩
            case measure => simp [intOf] <;> omega
        · have HQ : Hid (foL xs cs C R q = foA R C xs cs) := by
            have : q = cs.length := by omega
            rw [Hid, this]; rfl
          have hrl : RelP (R : Int) (foA R C xs cs) := foL_rel (by omega)
          have HRB : Hid (relB (R : Int) (foA R C xs cs) = true) := by
            have h3 : ((2 ^ R : Nat) : Int) = (2 : Int) ^ R := by simp
            refine relB_iff.2 ⟨⟨by omega, by omega⟩, by rw [foA_len], ?_⟩
            simp only [allB, List.all_eq_true]
            intro x hx
            obtain ⟨i, hi, rfl⟩ := List.getElem_of_mem hx
            rw [← nth_get _ _ hi, inB_iff, Int.toNat_natCast]
            have h4 := hrl.pos i hi
            have h5 := hrl.lt i hi
            rw [foA_len] at h5
            omega
          have E4 : Hid (cloN R (foA R C xs cs) = R) := by rw [Hid, cloN, HRB.out]; rfl
          have E5 : Hid (cloL R (foA R C xs cs) = clo (foA R C xs cs)) := by rw [Hid, cloL, HRB.out]; rfl
          have E6 : Hid (fstL R (clo (foA R C xs cs)) = frX R C xs cs) := by
            rw [Hid, fstL, frX, clo_len, foA_len]
          have hrd := hO.rd
          rw [HQ.out] at hrd
          have ⟨⟨zV, cV, dV⟩, fV, gV⟩ := hV
          have hfl : (foA R C xs cs).length = R := foA_len _ _ _ _
          have HCL := Lib.hid (iCloseRelation_any (R : Int) (some ⟨g, 0, none⟩) (foA R C xs cs) R wr ⟨by omega, by omega⟩ hrd)
          rw [hfl] at HCL
          clear hO hV hb hA hB hR hrd hfl hrl
          go_wp2_with fail
          refine HCL.out.mono ?_
          rintro e w7 ⟨a7, c7, rfl, ho7, hb7⟩
          rw [E4.out, E5.out, clo_len, foA_len, HRB.out]
          rw [E5.out, clo_len, foA_len] at ho7
          have b7 := HBb.out.trans (hb7.mono hbs)
          have hrd7 := ho7.rd
          have hFX := iFirst_any (R : Int) a7 (clo (foA R C xs cs)) c7
          rw [clo_len, foA_len, E6.out] at hFX
          have HFX := Lib.hid hFX
          have b7s := b7.size
          have R1 := Var2.new w7 (.int .i64 (R : Int)) (.slice a7 R c7) 46
          have HRD7 := Lib.hid (hrd7.alloc (.cells #[.int .i64 (R : Int), .slice a7 R c7] 46))
          clear hb7 ho7 hrd7 hFX cV dV fV gV
          go_wp2_with fail
          refine (HFX.out _ ⟨by omega, by omega⟩ HRD7.out).mono ?_
          rintro e w8 ⟨a8, c8, rfl, ho8, hb8⟩
          have b8 : Below w.heap.size w w8 := b7.trans (Below.trans (by repeat (first | exact Below.refl _ _ | assumption | refine Below.alloc ?_ (by first | exact Nat.le_refl _ | (simp only [World.size_alloc, World.size_setCell, World.size_drew]; omega) | omega) _ | refine Below.setCell ?_ (by first | exact Nat.le_refl _ | (simp only [World.size_alloc, World.size_setCell, World.size_drew]; omega) | omega) _ | refine Below.drew ?_)) (hb8.mono (by simp; omega)))
          have HO8 := Lib.hid (ho8.mono (B' := w.heap.size) (by simp; omega))
          clear hb8 ho8
          go_wp2_with fail
          refine bodyPost_ret (v := .tuple #[.slice a8 (frX R C xs cs).length c8, .bool (ordB R (clo (foA R C xs cs)))]) (by simp [results, Try.results45, go_sem]) rfl ?_
          exact ⟨a8, c8, by rw [H1.out, H2.out], by rw [H2.out]; exact HO8.out, b8⟩

theorem markIntS_any (a : Option Addr) (xs : List Int) (cap : Nat) (k : Int) (B : Nat) (w : World) (h0 : 0 ≤ k) (h1 : k ≤ 1099511627776) (hn : xs.length ≤ 1048576) (ho : OwnI w B (.slice a xs.length cap) xs) :
    Calls Try.prog 24 #[.slice a xs.length cap, .int .i64 k] w fun e w' => e = .returned (.int .i64 (k + xs.length)) ∧ OwnI w' B (.slice a xs.length cap) (marks k xs.length) ∧ w.grownBy w' (Value.slice a xs.length cap).ownBlock := by
  go_enter Try.func24, Try.ntmps24
  go_wp2_with fail
  go_loopw [1, 5] (fun k' i wr => ∃ j : Nat, j ≤ xs.length ∧ i = .int .i64 j ∧ k' = .int .i64 (k + j) ∧ wr.ownsRow B 3 1 (.slice a xs.length cap) xs.length ((marks k j ++ xs.drop j).map (Value.int .i64)) ∧ w.grownBy wr (Value.slice a xs.length cap).ownBlock) (fun _ i _ => xs.length - (intOf i).toNat)
  case atStart => exact ⟨0, Nat.zero_le _, rfl, by simp, by (have e : marks k 0 ++ xs.drop 0 = xs := by simp [marks]); rw [e]; exact ho, World.grownBy.refl _ _⟩
  case round =>
    obtain ⟨j, hj, rfl, rfl, hown, hg⟩ := hrel
    by_cases hlt : j < xs.length
    · obtain ⟨g, rfl⟩ : ∃ g, a = some ⟨g, 0, none⟩ := by
        rcases hown.2 with ⟨e, h⟩ | ⟨g, c, cur, e, _⟩
        · omega
        · simp only [Value.slice.injEq] at e
          exact ⟨g, e.1⟩
      have hst := World.ownsRow.stored hown j (.int .i64 (k + j))
      rw [mark_step k xs j hlt] at hst
      have hcc := World.ownsRow.cellAt hown j (by omega)
      have hfr := World.ownsRow.frozenAt hown j
      have hcc' : ∃ u, wr.cell? ⟨g, j, none⟩ = some u := by
        rw [hcc]
        exact ⟨_, List.getElem?_eq_getElem (by simp [marks_len]; omega)⟩
      obtain ⟨u, hu⟩ := hcc'
      have Hst := Lib.hid hst
      have Hg := Lib.hid (grown_trans hg hst.2)
      clear hst hcc hown hg
      go_wp2
      go_roundw
      case rel => exact ⟨j + 1, by omega, by go_num, by go_num, Hst.out.1, Hg.out⟩
      case measure => simp [intOf]; omega
    · obtain rfl : j = xs.length := by omega
      go_wp2
      go_ret
      refine ⟨rfl, ?_, hg⟩
      have e : marks k xs.length ++ xs.drop xs.length = marks k xs.length := by simp
      rw [e] at hown
      show World.ownsRow _ _ _ _ _ _ _
      rw [marks_len]
      exact hown

theorem markTable_any (n m : Int) (a : Option Addr) (xs : List Int) (cap : Nat) (k : Int) (B : Nat) (w : World) (h0 : 0 ≤ k) (h1 : k ≤ 1099511627776) (hn : xs.length ≤ 1048576) (ho : OwnI w B (.slice a xs.length cap) xs) :
    Calls Try.prog 23 #[.agg #[.int .i64 n, .int .i64 m, .slice a xs.length cap], .int .i64 k] w fun e w' => e = .returned (.int .i64 (k + xs.length)) ∧ OwnI w' B (.slice a xs.length cap) (marks k xs.length) ∧ w.grownBy w' (Value.slice a xs.length cap).ownBlock := by
  go_enter Try.func23, Try.ntmps23
  go_wp2_with fail
  refine (markIntS_any _ _ _ _ B _ h0 h1 hn (ho.alloc _)).mono ?_
  rintro e w1 ⟨rfl, ho1, hg1⟩
  go_wp2_with fail
  go_ret
  exact ⟨rfl, ho1, grown_alloc_set hg1⟩

theorem heldIntS_any (a : Option Addr) (n cap : Nat) (k : Int) (w : World) (h0 : 0 ≤ k) (h1 : k ≤ 1099511627776) (hn : n ≤ 1048576) (hx : Rd w a (marks k n)) :
    Calls Try.prog 25 #[.slice a n cap, .int .i64 k] w fun e w' => e = .returned (.int .i64 (k + n)) ∧ Below w.heap.size w w' := by
  go_enter Try.func25, Try.ntmps25
  go_wp2_with fail
  go_loop [1, 5] (fun k' i => ∃ j : Nat, j ≤ n ∧ i = .int .i64 j ∧ k' = .int .i64 (k + j)) (fun _ i => n - (intOf i).toNat)
  case atStart => exact ⟨0, Nat.zero_le _, rfl, by simp⟩
  case round =>
    obtain ⟨j, hj, rfl, rfl⟩ := hrel
    by_cases hlt : j < n
    · obtain ⟨b, off, rfl, hbl, hc⟩ := hx.cell j (by rw [marks_len]; exact hlt)
      rw [marks_nth hlt] at hc
      go_wp2_with fail
      go_round
      case rel => exact ⟨j + 1, by omega, by go_num, by go_num⟩
      case measure => simp [intOf]; omega
    · obtain rfl : j = n := by omega
      go_wp2_with fail
      go_ret
      exact ⟨rfl, (by repeat (first | exact Below.refl _ _ | assumption | refine Below.alloc ?_ (by first | exact Nat.le_refl _ | (simp only [World.size_alloc, World.size_setCell, World.size_drew]; omega) | omega) _ | refine Below.setCell ?_ (by first | exact Nat.le_refl _ | (simp only [World.size_alloc, World.size_setCell, World.size_drew]; omega) | omega) _ | refine Below.drew ?_))⟩

theorem walk (n0 m0 : Int) (a0 : Option Addr) (xs0 : List Int) (cap0 : Nat) (a1 : Option Addr) (xs1 : List Int) (cap1 : Nat) (w : World) (hn0 : -9223372036854775808 ≤ n0 ∧ n0 ≤ 9223372036854775807) (hm0 : -9223372036854775808 ≤ m0 ∧ m0 ≤ 9223372036854775807) (hx0 : Rd w a0 xs0) (hx1 : Rd w a1 xs1) :
    Calls Try.prog 11 #[.agg #[.int .i64 n0, .int .i64 m0, .slice a0 xs0.length cap0], .slice a1 xs1.length cap1] w fun e w' => e = .returned (.bool true) ∧ Below w.heap.size w w' := by
  have hR0 : (frL n0 m0 xs0 xs1).length ≤ 1048576 := frL_len n0 m0 xs0 xs1
  by_cases hs1 : 1048576 < (xs1.length : Int)
  · go_enter Try.func11, Try.ntmps11
    go_wp2_with fail
    go_ret
    exact ⟨rfl, (by repeat (first | exact Below.refl _ _ | assumption | refine Below.alloc ?_ (by first | exact Nat.le_refl _ | (simp only [World.size_alloc, World.size_setCell, World.size_drew]; omega) | omega) _ | refine Below.setCell ?_ (by first | exact Nat.le_refl _ | (simp only [World.size_alloc, World.size_setCell, World.size_drew]; omega) | omega) _ | refine Below.drew ?_))⟩
  by_cases hs0 : 1048576 < (xs0.length : Int)
  · go_enter Try.func11, Try.ntmps11
    go_wp2_with fail
    refine (szTable_no (by omega) (by omega) (by omega) hx0.len).mono ?_
    rintro e w1 ⟨rfl, hb1⟩
    have bw1 : Below w.heap.size w w1 := Below.trans (by repeat (first | exact Below.refl _ _ | assumption | refine Below.alloc ?_ (by first | exact Nat.le_refl _ | (simp only [World.size_alloc, World.size_setCell, World.size_drew]; omega) | omega) _ | refine Below.setCell ?_ (by first | exact Nat.le_refl _ | (simp only [World.size_alloc, World.size_setCell, World.size_drew]; omega) | omega) _ | refine Below.drew ?_)) (hb1.mono (by first | (simp only [World.size_alloc, World.size_setCell, World.size_drew]; omega) | omega))
    have A0_1 : Box3 w1 w.heap.size (.int .i64 n0) (.int .i64 m0) (.slice a0 xs0.length cap0) := ⟨by have := hb1.size; simp at this; omega, (hb1.cell (p := ⟨w.heap.size, 0, none⟩) (by simp <;> omega)).trans (by simp), (hb1.cell (p := ⟨w.heap.size, 1, none⟩) (by simp <;> omega)).trans (by simp), (hb1.cell (p := ⟨w.heap.size, 2, none⟩) (by simp <;> omega)).trans (by simp)⟩
    have ⟨zA0_1, cA0_1, dA0_1, eA0_1⟩ := A0_1
    go_wp2_with fail
    go_ret
    exact ⟨rfl, bw1⟩
  go_enter Try.func11, Try.ntmps11
  go_wp2_with fail
  refine (szTable_ok (by omega) (by omega)).mono ?_
  rintro e w1 ⟨rfl, hb⟩
  have bw1 : Below w.heap.size w w1 := Below.trans (by repeat (first | exact Below.refl _ _ | assumption | refine Below.alloc ?_ (by first | exact Nat.le_refl _ | (simp only [World.size_alloc, World.size_setCell, World.size_drew]; omega) | omega) _ | refine Below.setCell ?_ (by first | exact Nat.le_refl _ | (simp only [World.size_alloc, World.size_setCell, World.size_drew]; omega) | omega) _ | refine Below.drew ?_)) (hb.mono (by first | (simp only [World.size_alloc, World.size_setCell, World.size_drew]; omega) | omega))
  have z1 : w.heap.size ≤ w1.heap.size := bw1.size
  have A0_1 : Box3 w1 w.heap.size (.int .i64 n0) (.int .i64 m0) (.slice a0 xs0.length cap0) := ⟨by have := hb.size; simp at this; omega, (hb.cell (p := ⟨w.heap.size, 0, none⟩) (by simp <;> omega)).trans (by simp), (hb.cell (p := ⟨w.heap.size, 1, none⟩) (by simp <;> omega)).trans (by simp), (hb.cell (p := ⟨w.heap.size, 2, none⟩) (by simp <;> omega)).trans (by simp)⟩
  have ⟨zA0_1, cA0_1, dA0_1, eA0_1⟩ := A0_1
  clear hb
  go_wp2_with fail
  refine (toTable_any _ _ _ _ _ _ (hx0.below bw1) (by omega)).mono ?_
  rintro e w2 ⟨pT0, qT0, rfl, ho, hb⟩
  have ht : Below w1.heap.size w1 w2 := hb
  have z2 : w1.heap.size ≤ w2.heap.size := ht.size
  have bw2 : Below w.heap.size w w2 := bw1.trans (ht.mono bw1.size)
  have A0_2 := A0_1.below ht
  have ⟨zA0_2, cA0_2, dA0_2, eA0_2⟩ := A0_2
  clear A0_1 cA0_1 dA0_1 eA0_1
  have T0_2 := ho
  have UT0 := T0_2.cut (Nat.le_refl _)
  clear ho
  clear ht hb
  go_wp2_with fail
  refine (toIntS_any _ _ _ _ (hx1.below bw2) (by omega)).mono ?_
  rintro e w3 ⟨pT1, qT1, rfl, ho, hb⟩
  have ht : Below w2.heap.size w2 w3 := hb
  have z3 : w2.heap.size ≤ w3.heap.size := ht.size
  have bw3 : Below w.heap.size w w3 := bw2.trans (ht.mono bw2.size)
  have A0_3 := A0_2.below ht
  have ⟨zA0_3, cA0_3, dA0_3, eA0_3⟩ := A0_3
  have T0_3 := T0_2.below ht (Nat.le_refl _)
  clear A0_2 cA0_2 dA0_2 eA0_2 T0_2
  have T1_3 := ho
  have UT1 := T1_3.cut (Nat.le_refl _)
  clear ho
  clear ht hb
  go_wp2_with fail
  refine (sFree_any _ _ _ _ _ _ _ _ _ hn0 hm0 (T0_3.rd) (T1_3.rd)).mono ?_
  rintro e w4 ⟨pR0, qR0, rfl, ho0, hb⟩
  have ht : Below w3.heap.size w3 w4 := hb
  have z4 : w3.heap.size ≤ w4.heap.size := ht.size
  have bw4 : Below w.heap.size w w4 := bw3.trans (ht.mono bw3.size)
  have A0_4 := A0_3.below ht
  have ⟨zA0_4, cA0_4, dA0_4, eA0_4⟩ := A0_4
  have T0_4 := T0_3.below ht (Nat.le_refl _)
  have T1_4 := T1_3.below ht (Nat.le_refl _)
  clear A0_3 cA0_3 dA0_3 eA0_3 T0_3 T1_3
  have R0_4 := ho0
  have UR0 := R0_4.cut (Nat.le_refl _)
  clear ho0
  clear ht hb
  go_wp2_with fail
  clear T0_4 UT0
  clear T1_4 UT1
  refine (toTable_any _ _ _ _ _ _ (hx0.below bw4) (by omega)).mono ?_
  rintro e w5 ⟨pX0, qX0, rfl, ho, hb⟩
  have ht : Below w4.heap.size w4 w5 := hb
  have z5 : w4.heap.size ≤ w5.heap.size := ht.size
  have bw5 : Below w.heap.size w w5 := bw4.trans (ht.mono bw4.size)
  have A0_5 := A0_4.below ht
  have ⟨zA0_5, cA0_5, dA0_5, eA0_5⟩ := A0_5
  have R0_5 := R0_4.below ht (Nat.le_refl _)
  clear A0_4 cA0_4 dA0_4 eA0_4 R0_4
  have X0_5 := ho
  have UX0 := X0_5.cut (Nat.le_refl _)
  clear ho
  clear ht hb
  go_wp2_with fail
  refine (toIntS_any _ _ _ _ (hx1.below (bw5.alloc bw5.size _)) (by omega)).mono ?_
  rintro e w6 ⟨pX1, qX1, rfl, ho, hb⟩
  have ht : Below w5.heap.size w5 w6 := Below.trans (by repeat (first | exact Below.refl _ _ | assumption | refine Below.alloc ?_ (by first | exact Nat.le_refl _ | (simp only [World.size_alloc, World.size_setCell, World.size_drew]; omega) | omega) _ | refine Below.setCell ?_ (by first | exact Nat.le_refl _ | (simp only [World.size_alloc, World.size_setCell, World.size_drew]; omega) | omega) _ | refine Below.drew ?_)) (hb.mono (by first | (simp only [World.size_alloc, World.size_setCell, World.size_drew]; omega) | omega))
  have z6 : w5.heap.size ≤ w6.heap.size := ht.size
  have bw6 : Below w.heap.size w w6 := bw5.trans (ht.mono bw5.size)
  have A0_6 := A0_5.below ht
  have BX0_6 : Box3 w6 w5.heap.size (.int .i64 n0) (.int .i64 m0) (.slice pX0 xs0.length qX0) := (Box3.new w5 _ _ _ 27).below hb
  have ⟨zA0_6, cA0_6, dA0_6, eA0_6⟩ := A0_6
  have ⟨zBX0_6, cBX0_6, dBX0_6, eBX0_6⟩ := BX0_6
  have R0_6 := R0_5.below ht (Nat.le_refl _)
  have X0_6 := X0_5.below ht (Nat.le_refl _)
  clear A0_5 cA0_5 dA0_5 eA0_5 R0_5 X0_5
  have X1_6 := ho
  have UX1 := X1_6.cut (Nat.le_refl _); simp only [World.size_alloc] at UX1
  clear ho
  clear ht hb
  go_wp2_with fail
  refine (iFree_any _ _ _ _ _ _ _ _ _ hn0 hm0 (X0_6.rd) (X1_6.rd)).mono ?_
  rintro e w7 ⟨pG0, qG0, rfl, ho0, hb⟩
  have ht : Below w6.heap.size w6 w7 := hb
  have z7 : w6.heap.size ≤ w7.heap.size := ht.size
  have bw7 : Below w.heap.size w w7 := bw6.trans (ht.mono bw6.size)
  have A0_7 := A0_6.below ht
  have BX0_7 := BX0_6.below ht
  have ⟨zA0_7, cA0_7, dA0_7, eA0_7⟩ := A0_7
  have ⟨zBX0_7, cBX0_7, dBX0_7, eBX0_7⟩ := BX0_7
  have R0_7 := R0_6.below ht (Nat.le_refl _)
  have X0_7 := X0_6.below ht (Nat.le_refl _)
  have X1_7 := X1_6.below ht (Nat.le_refl _)
  clear A0_6 cA0_6 dA0_6 eA0_6 BX0_6 cBX0_6 dBX0_6 eBX0_6 R0_6 X0_6 X1_6
  have G0_7 := ho0
  have UG0 := G0_7.cut (Nat.le_refl _)
  clear ho0
  clear ht hb
  go_wp2_with fail
  refine (eqIntS_any _ _ (frL n0 m0 xs0 xs1) (frL n0 m0 xs0 xs1) _ _ _ (G0_7.rd) (R0_7.rd)).mono ?_
  rw [eqL_self]
  rintro e w8 ⟨rfl, hb⟩
  have ht : Below w7.heap.size w7 w8 := hb
  have z8 : w7.heap.size ≤ w8.heap.size := ht.size
  have bw8 : Below w.heap.size w w8 := bw7.trans (ht.mono bw7.size)
  have A0_8 := A0_7.below ht
  have BX0_8 := BX0_7.below ht
  have ⟨zA0_8, cA0_8, dA0_8, eA0_8⟩ := A0_8
  have ⟨zBX0_8, cBX0_8, dBX0_8, eBX0_8⟩ := BX0_8
  have R0_8 := R0_7.below ht (Nat.le_refl _)
  have X0_8 := X0_7.below ht (Nat.le_refl _)
  have X1_8 := X1_7.below ht (Nat.le_refl _)
  have G0_8 := G0_7.below ht (Nat.le_refl _)
  clear A0_7 cA0_7 dA0_7 eA0_7 BX0_7 cBX0_7 dBX0_7 eBX0_7 R0_7 X0_7 X1_7 G0_7
  clear ht hb
  go_wp2_with fail
  go_region_held3 (fun w' => w'.cell? ⟨w.heap.size, 0, none⟩ = some (.int .i64 n0) ∧ w'.cell? ⟨w.heap.size, 1, none⟩ = some (.int .i64 m0) ∧ w'.cell? ⟨w.heap.size, 2, none⟩ = some (.slice a0 xs0.length cap0) ∧ w'.cell? ⟨w5.heap.size, 0, none⟩ = some (.int .i64 n0) ∧ w'.cell? ⟨w5.heap.size, 1, none⟩ = some (.int .i64 m0) ∧ w'.cell? ⟨w5.heap.size, 2, none⟩ = some (.slice pX0 xs0.length qX0))
    (first | exact ⟨P10.2.1, P10.2.2.1, P10.2.2.2, Q10.2.1, Q10.2.2.1, Q10.2.2.2⟩ | exact ⟨P9.2.1, P9.2.2.1, P9.2.2.2, Q9.2.1, Q9.2.2.1, Q9.2.2.2⟩ | go_keep)
    (first | (go_at_call 17; refine (toTable_any _ _ _ _ _ _ (hx0.below (bw8.trans (Joins.below_draws _ _ _))) (by omega)).mono ?_; rintro e w9 ⟨a9', cap9', rfl, ho9, hb9⟩; have ht9 : Below w8.heap.size w8 w9 := (Joins.below_draws _ _ _).trans hb9; have P9 := A0_8.below ht9; have Q9 := BX0_8.below ht9) | (go_at_call 19; refine (eqTable_same _ _ _ _ xs0 _ _ _ (X0_8.rd.below ht9) ho9.rd).mono ?_; rintro e w10 ⟨rfl, hb10⟩; have P10 := P9.below hb10; have Q10 := Q9.below hb10))
  have ht : Below w8.heap.size w8 w10 := ht9.trans (hb10.mono ht9.size)
  have z10 : w8.heap.size ≤ w10.heap.size := ht.size
  have bw10 : Below w.heap.size w w10 := bw8.trans (ht.mono bw8.size)
  clear P9 Q9 P10 Q10 ho9
  have A0_10 := A0_8.below ht
  have BX0_10 := BX0_8.below ht
  have ⟨zA0_10, cA0_10, dA0_10, eA0_10⟩ := A0_10
  have ⟨zBX0_10, cBX0_10, dBX0_10, eBX0_10⟩ := BX0_10
  have R0_10 := R0_8.below ht (Nat.le_refl _)
  have X0_10 := X0_8.below ht (Nat.le_refl _)
  have X1_10 := X1_8.below ht (Nat.le_refl _)
  have G0_10 := G0_8.below ht (Nat.le_refl _)
  clear A0_8 cA0_8 dA0_8 eA0_8 BX0_8 cBX0_8 dBX0_8 eBX0_8 R0_8 X0_8 X1_8 G0_8
  clear ht hb10 ht9 hb9
  go_wp2_with fail
  refine (toIntS_any _ _ _ _ (hx1.below bw10) (by omega)).mono ?_
  rintro e w11 ⟨pY1, qY1, rfl, ho, hb⟩
  have ht : Below w10.heap.size w10 w11 := hb
  have z11 : w10.heap.size ≤ w11.heap.size := ht.size
  have bw11 : Below w.heap.size w w11 := bw10.trans (ht.mono bw10.size)
  have A0_11 := A0_10.below ht
  have BX0_11 := BX0_10.below ht
  have ⟨zA0_11, cA0_11, dA0_11, eA0_11⟩ := A0_11
  have ⟨zBX0_11, cBX0_11, dBX0_11, eBX0_11⟩ := BX0_11
  have R0_11 := R0_10.below ht (Nat.le_refl _)
  have X0_11 := X0_10.below ht (Nat.le_refl _)
  have X1_11 := X1_10.below ht (Nat.le_refl _)
  have G0_11 := G0_10.below ht (Nat.le_refl _)
  clear A0_10 cA0_10 dA0_10 eA0_10 BX0_10 cBX0_10 dBX0_10 eBX0_10 R0_10 X0_10 X1_10 G0_10
  have Y1_11 := ho
  have UY1 := Y1_11.cut (Nat.le_refl _)
  clear ho
  clear ht hb
  go_wp2_with fail
  refine (eqIntS_any _ _ xs1 xs1 _ _ _ X1_11.rd Y1_11.rd).mono ?_
  rw [eqL_self]
  rintro e w12 ⟨rfl, hb⟩
  have ht : Below w11.heap.size w11 w12 := hb
  have z12 : w11.heap.size ≤ w12.heap.size := ht.size
  have bw12 : Below w.heap.size w w12 := bw11.trans (ht.mono bw11.size)
  have A0_12 := A0_11.below ht
  have BX0_12 := BX0_11.below ht
  have ⟨zA0_12, cA0_12, dA0_12, eA0_12⟩ := A0_12
  have ⟨zBX0_12, cBX0_12, dBX0_12, eBX0_12⟩ := BX0_12
  have R0_12 := R0_11.below ht (Nat.le_refl _)
  have X0_12 := X0_11.below ht (Nat.le_refl _)
  have X1_12 := X1_11.below ht (Nat.le_refl _)
  have G0_12 := G0_11.below ht (Nat.le_refl _)
  have Y1_12 := Y1_11.below ht (Nat.le_refl _)
  clear A0_11 cA0_11 dA0_11 eA0_11 BX0_11 cBX0_11 dBX0_11 eBX0_11 R0_11 X0_11 X1_11 G0_11 Y1_11
  clear ht hb
  go_wp2_with fail
  clear Y1_12 UY1
  refine (markTable_any _ _ _ _ _ _ _ _ (by omega) (by omega) (by omega) X0_12).mono ?_
  rintro e w13 ⟨rfl, ho, hg⟩
  have z13 : w12.heap.size ≤ w13.heap.size := hg.size
  have bw13 : Below w.heap.size w w13 := bw12.trans (below_of_grown hg (fun b e => by have := UX0 b e; omega) (by omega))
  have A0_13 := A0_12.kept hg (ne_own (fun c e => by have := UX0 c e; omega))
  have ⟨zA0_13, cA0_13, dA0_13, eA0_13⟩ := A0_13
  have BX0_13 := BX0_12.kept hg (ne_own (fun c e => by have := UX0 c e; omega))
  have ⟨zBX0_13, cBX0_13, dBX0_13, eBX0_13⟩ := BX0_13
  have R0_13 := R0_12.kept hg (own_ne (fun c e e2 => by have h1 := UR0 c e; have h2 := UX0 c e2; omega))
  have X1_13 := X1_12.kept hg (own_ne (fun c e e2 => by have h1 := UX1 c e; have h2 := UX0 c e2; omega))
  have G0_13 := G0_12.kept hg (own_ne (fun c e e2 => by have h1 := UG0 c e; have h2 := UX0 c e2; omega))
  clear A0_12 cA0_12 dA0_12 eA0_12 BX0_12 cBX0_12 dBX0_12 eBX0_12 R0_12 X0_12 X1_12 G0_12 hg
  have X0_13 := ho
  clear ho
  go_wp2_with fail
  refine (markIntS_any _ _ _ _ _ _ (by omega) (by omega) (by omega) X1_13).mono ?_
  rintro e w14 ⟨rfl, ho, hg⟩
  have z14 : w13.heap.size ≤ w14.heap.size := hg.size
  have bw14 : Below w.heap.size w w14 := bw13.trans (below_of_grown hg (fun b e => by have := UX1 b e; omega) (by omega))
  have A0_14 := A0_13.kept hg (ne_own (fun c e => by have := UX1 c e; omega))
  have ⟨zA0_14, cA0_14, dA0_14, eA0_14⟩ := A0_14
  have BX0_14 := BX0_13.kept hg (ne_own (fun c e => by have := UX1 c e; omega))
  have ⟨zBX0_14, cBX0_14, dBX0_14, eBX0_14⟩ := BX0_14
  have R0_14 := R0_13.kept hg (own_ne (fun c e e2 => by have h1 := UR0 c e; have h2 := UX1 c e2; omega))
  have X0_14 := X0_13.kept hg (own_ne (fun c e e2 => by have h1 := UX0 c e; have h2 := UX1 c e2; omega))
  have G0_14 := G0_13.kept hg (own_ne (fun c e e2 => by have h1 := UG0 c e; have h2 := UX1 c e2; omega))
  clear A0_13 cA0_13 dA0_13 eA0_13 BX0_13 cBX0_13 dBX0_13 eBX0_13 R0_13 X0_13 X1_13 G0_13 hg
  have X1_14 := ho
  clear ho
  go_wp2_with fail
  refine (eqIntS_any _ _ (frL n0 m0 xs0 xs1) (frL n0 m0 xs0 xs1) _ _ _ (G0_14.rd) (R0_14.rd)).mono ?_
  rw [eqL_self]
  rintro e w15 ⟨rfl, hb⟩
  have ht : Below w14.heap.size w14 w15 := hb
  have z15 : w14.heap.size ≤ w15.heap.size := ht.size
  have bw15 : Below w.heap.size w w15 := bw14.trans (ht.mono bw14.size)
  have A0_15 := A0_14.below ht
  have BX0_15 := BX0_14.below ht
  have ⟨zA0_15, cA0_15, dA0_15, eA0_15⟩ := A0_15
  have ⟨zBX0_15, cBX0_15, dBX0_15, eBX0_15⟩ := BX0_15
  have R0_15 := R0_14.below ht (Nat.le_refl _)
  have X0_15 := X0_14.below ht (Nat.le_refl _)
  have X1_15 := X1_14.below ht (Nat.le_refl _)
  have G0_15 := G0_14.below ht (Nat.le_refl _)
  clear A0_14 cA0_14 dA0_14 eA0_14 BX0_14 cBX0_14 dBX0_14 eBX0_14 R0_14 X0_14 X1_14 G0_14
  clear ht hb
  go_wp2_with fail
  refine (markIntS_any _ _ _ _ _ _ (by omega) (by omega) hR0 G0_15).mono ?_
  rintro e w16 ⟨rfl, ho, hg⟩
  have z16 : w15.heap.size ≤ w16.heap.size := hg.size
  have bw16 : Below w.heap.size w w16 := bw15.trans (below_of_grown hg (fun b e => by have := UG0 b e; omega) (by omega))
  have A0_16 := A0_15.kept hg (ne_own (fun c e => by have := UG0 c e; omega))
  have ⟨zA0_16, cA0_16, dA0_16, eA0_16⟩ := A0_16
  have BX0_16 := BX0_15.kept hg (ne_own (fun c e => by have := UG0 c e; omega))
  have ⟨zBX0_16, cBX0_16, dBX0_16, eBX0_16⟩ := BX0_16
  have R0_16 := R0_15.kept hg (own_ne (fun c e e2 => by have h1 := UR0 c e; have h2 := UG0 c e2; omega))
  have X0_16 := X0_15.kept hg (own_ne (fun c e e2 => by have h1 := UX0 c e; have h2 := UG0 c e2; omega))
  have X1_16 := X1_15.kept hg (own_ne (fun c e e2 => by have h1 := UX1 c e; have h2 := UG0 c e2; omega))
  clear A0_15 cA0_15 dA0_15 eA0_15 BX0_15 cBX0_15 dBX0_15 eBX0_15 R0_15 X0_15 X1_15 G0_15 hg
  have G0_16 := ho
  clear ho
  go_wp2_with fail
  refine (heldIntS_any _ _ _ _ _ (by omega) (by omega) hR0 G0_16.rd).mono ?_
  rintro e w17 ⟨rfl, hb⟩
  have ht : Below w16.heap.size w16 w17 := hb
  have z17 : w16.heap.size ≤ w17.heap.size := ht.size
  have bw17 : Below w.heap.size w w17 := bw16.trans (ht.mono bw16.size)
  have A0_17 := A0_16.below ht
  have BX0_17 := BX0_16.below ht
  have ⟨zA0_17, cA0_17, dA0_17, eA0_17⟩ := A0_17
  have ⟨zBX0_17, cBX0_17, dBX0_17, eBX0_17⟩ := BX0_17
  have R0_17 := R0_16.below ht (Nat.le_refl _)
  have X0_17 := X0_16.below ht (Nat.le_refl _)
  have X1_17 := X1_16.below ht (Nat.le_refl _)
  have G0_17 := G0_16.below ht (Nat.le_refl _)
  clear A0_16 cA0_16 dA0_16 eA0_16 BX0_16 cBX0_16 dBX0_16 eBX0_16 R0_16 X0_16 X1_16 G0_16
  clear ht hb
  go_wp2_with fail
  clear X0_17 UX0
  clear X1_17 UX1
  refine (toTable_any _ _ _ _ _ _ (hx0.below bw17) (by omega)).mono ?_
  rintro e w18 ⟨pV0, qV0, rfl, ho, hb⟩
  have ht : Below w17.heap.size w17 w18 := hb
  have z18 : w17.heap.size ≤ w18.heap.size := ht.size
  have bw18 : Below w.heap.size w w18 := bw17.trans (ht.mono bw17.size)
  have A0_18 := A0_17.below ht
  have BX0_18 := BX0_17.below ht
  have ⟨zA0_18, cA0_18, dA0_18, eA0_18⟩ := A0_18
  have ⟨zBX0_18, cBX0_18, dBX0_18, eBX0_18⟩ := BX0_18
  have R0_18 := R0_17.below ht (Nat.le_refl _)
  have G0_18 := G0_17.below ht (Nat.le_refl _)
  clear A0_17 cA0_17 dA0_17 eA0_17 BX0_17 cBX0_17 dBX0_17 eBX0_17 R0_17 G0_17
  have V0_18 := ho
  have UV0 := V0_18.cut (Nat.le_refl _)
  clear ho
  clear ht hb
  go_wp2_with fail
  refine (toIntS_any _ _ _ _ (hx1.below bw18) (by omega)).mono ?_
  rintro e w19 ⟨pV1, qV1, rfl, ho, hb⟩
  have ht : Below w18.heap.size w18 w19 := hb
  have z19 : w18.heap.size ≤ w19.heap.size := ht.size
  have bw19 : Below w.heap.size w w19 := bw18.trans (ht.mono bw18.size)
  have A0_19 := A0_18.below ht
  have BX0_19 := BX0_18.below ht
  have ⟨zA0_19, cA0_19, dA0_19, eA0_19⟩ := A0_19
  have ⟨zBX0_19, cBX0_19, dBX0_19, eBX0_19⟩ := BX0_19
  have R0_19 := R0_18.below ht (Nat.le_refl _)
  have G0_19 := G0_18.below ht (Nat.le_refl _)
  have V0_19 := V0_18.below ht (Nat.le_refl _)
  clear A0_18 cA0_18 dA0_18 eA0_18 BX0_18 cBX0_18 dBX0_18 eBX0_18 R0_18 G0_18 V0_18
  have V1_19 := ho
  have UV1 := V1_19.cut (Nat.le_refl _)
  clear ho
  clear ht hb
  go_wp2_with fail
  refine (iFree_any _ _ _ _ _ _ _ _ _ hn0 hm0 (V0_19.rd) (V1_19.rd)).mono ?_
  rintro e w20 ⟨pH0, qH0, rfl, ho0, hb⟩
  have ht : Below w19.heap.size w19 w20 := hb
  have z20 : w19.heap.size ≤ w20.heap.size := ht.size
  have bw20 : Below w.heap.size w w20 := bw19.trans (ht.mono bw19.size)
  have A0_20 := A0_19.below ht
  have BX0_20 := BX0_19.below ht
  have ⟨zA0_20, cA0_20, dA0_20, eA0_20⟩ := A0_20
  have ⟨zBX0_20, cBX0_20, dBX0_20, eBX0_20⟩ := BX0_20
  have R0_20 := R0_19.below ht (Nat.le_refl _)
  have G0_20 := G0_19.below ht (Nat.le_refl _)
  have V0_20 := V0_19.below ht (Nat.le_refl _)
  have V1_20 := V1_19.below ht (Nat.le_refl _)
  clear A0_19 cA0_19 dA0_19 eA0_19 BX0_19 cBX0_19 dBX0_19 eBX0_19 R0_19 G0_19 V0_19 V1_19
  have H0_20 := ho0
  have UH0 := H0_20.cut (Nat.le_refl _)
  clear ho0
  clear ht hb
  go_wp2_with fail
  clear V0_20 UV0
  clear V1_20 UV1
  refine (eqIntS_any _ _ (frL n0 m0 xs0 xs1) (frL n0 m0 xs0 xs1) _ _ _ (H0_20.rd) (R0_20.rd)).mono ?_
  rw [eqL_self]
  rintro e w21 ⟨rfl, hb⟩
  have ht : Below w20.heap.size w20 w21 := hb
  have z21 : w20.heap.size ≤ w21.heap.size := ht.size
  have bw21 : Below w.heap.size w w21 := bw20.trans (ht.mono bw20.size)
  have A0_21 := A0_20.below ht
  have BX0_21 := BX0_20.below ht
  have ⟨zA0_21, cA0_21, dA0_21, eA0_21⟩ := A0_21
  have ⟨zBX0_21, cBX0_21, dBX0_21, eBX0_21⟩ := BX0_21
  have R0_21 := R0_20.below ht (Nat.le_refl _)
  have G0_21 := G0_20.below ht (Nat.le_refl _)
  have H0_21 := H0_20.below ht (Nat.le_refl _)
  clear A0_20 cA0_20 dA0_20 eA0_20 BX0_20 cBX0_20 dBX0_20 eBX0_20 R0_20 G0_20 H0_20
  clear ht hb
  go_wp2_with fail
  refine (heldIntS_any _ _ _ _ _ (by omega) (by omega) hR0 G0_21.rd).mono ?_
  rintro e w22 ⟨rfl, hb⟩
  have ht : Below w21.heap.size w21 w22 := hb
  have z22 : w21.heap.size ≤ w22.heap.size := ht.size
  have bw22 : Below w.heap.size w w22 := bw21.trans (ht.mono bw21.size)
  have A0_22 := A0_21.below ht
  have BX0_22 := BX0_21.below ht
  have ⟨zA0_22, cA0_22, dA0_22, eA0_22⟩ := A0_22
  have ⟨zBX0_22, cBX0_22, dBX0_22, eBX0_22⟩ := BX0_22
  have R0_22 := R0_21.below ht (Nat.le_refl _)
  have G0_22 := G0_21.below ht (Nat.le_refl _)
  have H0_22 := H0_21.below ht (Nat.le_refl _)
  clear A0_21 cA0_21 dA0_21 eA0_21 BX0_21 cBX0_21 dBX0_21 eBX0_21 R0_21 G0_21 H0_21
  clear ht hb
  go_wp2_with fail
  go_ret
  exact ⟨rfl, bw22⟩

theorem rd_of_trod {H : Type} {enc : TypeId × Value → H} {W : World} {fuel : Nat} {c : Value} {y : DataW H × List MemPlace}
    (h : DataW.trod enc Try.prog W 0 (fun _ => true) true fuel 22 [c] = some y) : ∃ (a : Option Addr) (xs : List Int) (cap : Nat), c = .slice a xs.length cap ∧ Rd W a xs ∧ ∀ k, k < xs.length → (Lit.int .i64 (nth xs k)).wf = true := by
  rcases Go.ChangeShapes.open_ints Try.underlying22 Try.underlying3 (by kernel_rfl) h with ⟨hcs, _⟩ | ⟨x, len, cap, zs, hcs, _, hl, hm, hz, _, hcell, hwf⟩
  · simp only [List.cons.injEq, and_true] at hcs
    exact ⟨none, [], 0, hcs, ⟨by simp, fun k hk => by simp at hk⟩, fun k hk => by simp at hk⟩
  · simp only [List.cons.injEq, and_true] at hcs
    simp only [if_true] at hz
    have hlen : (zs.take len).length = len := by rw [List.length_take]; omega
    have hn : ∀ k, k < len → nth (zs.take len) k = zs.getD k 0 := by
      intro k hk
      simp only [nth, List.getD_eq_getElem?_getD, List.getElem?_take, hk, if_true]
    refine ⟨some x, zs.take len, cap, by rw [hlen]; exact hcs, ⟨by rw [hlen]; unfold maxLen at hm; omega, fun k hk => ?_⟩, fun k hk => ?_⟩
    · rw [hlen] at hk
      obtain ⟨b, off, sp⟩ := x
      have h0 := hcell 0 (by omega)
      have hsp : sp = none := by simpa [Addr.add] using World.cell?_spot h0
      subst hsp
      have hk' := hcell k (by omega)
      rw [Addr.add_lit] at hk'
      exact ⟨b, off, rfl, World.block_lt_of_cell? _ _ h0, by rw [hk', hn k hk]⟩
    · rw [hlen] at hk
      rw [hn k hk]
      have hk2 : k < zs.length := by omega
      exact hwf _ (by rw [List.getD_eq_getElem?_getD, List.getElem?_eq_getElem hk2]; exact List.getElem_mem hk2)

theorem own : ownKnob Try.prog.godebug = none := by kernel_rfl
theorem laidOut : laidOutB Try.prog = true := by kernel_rfl
theorem wf_bd {n : Int} (h : (Lit.int .i64 n).wf = true) : -9223372036854775808 ≤ n ∧ n ≤ 9223372036854775807 := by
  simp [Lit.wf, IntKind.min, IntKind.max, IntKind.bits, IntKind.signed] at h
  omega

theorem cellsT : Try.prog.cellsOf 24 = 3 := by kernel_rfl

open Go.ChangeShapes Go.WideShapes Go.ChangeAt Go.RowKit in
set_option maxRecDepth 100000 in
theorem lifted (os : Os) (started : os.Started) (H : Type) (enc : TypeId × Value → H) :
    ReturnsInHanded {} Try.checked os 11 .any (Rows.fnExactFreeOrderSpec.pre6 enc Try.prog Try.f11 Rows.fnExactFreeOrderRow.domain false) (Rows.fnExactFreeOrderSpec.post enc Try.prog Try.f11 false true false false) := by
  refine returnsInHanded_of_change (C := Try.checked) own started (by kernel_rfl) Try.func11
    (ChangeSpec.witness6 (enc := enc) (C := Try.checked) false ⟨#[], #[.agg #[.int .i64 0, .int .i64 0, .slice none 0 0], .slice none 0 0], []⟩ 8 (by kernel_rfl) (by kernel_rfl) (by kernel_rfl) (by kernel_rfl)) ?_
  intro W base args ds gs before hval0 hW hcnd _
  have hval : ∀ (j : Nat) t v, Try.f11.params[j]? = some t → args[j]? = some v → Value.okWide Try.prog W .any base t v := hval0
  have hW' := hW
  obtain ⟨p, q, hA0, hV, rfl, hfz, hnd⟩ := hW
  have hA : DataW.TrodAll enc Try.prog W 0 (fun _ => true) true Try.f11.params.toList args.toList ds p := hA0
  rw [Try.params11] at hA hval
  obtain ⟨v0, vs0, d0, ds0, p0, q0, hargs, rfl, rfl, h0, r0⟩ := trodAll_cons hA
  obtain ⟨v1, vs1, d1, ds1, p1, q1, rfl, rfl, rfl, h1, r1⟩ := trodAll_cons r0
  obtain ⟨rfl, rfl, rfl⟩ := trodAll_nil r1
  obtain rfl : args = #[v0, v1] := by cases args; simp_all
  obtain ⟨rfl, rfl⟩ := trodVars_none hV
  have lt0 : ∀ x ∈ p0, x.block < W.heap.size := by obtain ⟨m, hm⟩ := h0; exact DataW.trod_lt m _ _ _ hm
  have lt1 : ∀ x ∈ p1, x.block < W.heap.size := by obtain ⟨m, hm⟩ := h1; exact DataW.trod_lt m _ _ _ hm
  obtain ⟨c00, c01, c02, y00, y01, y02, m0, rfl, hd0, hp0, hy00, hy01, hy02⟩ := Go.Joins.open_agg3 Try.underlying24 (by kernel_rfl) cellsT (hval 0 24 v0 rfl rfl) h0
  obtain ⟨n0, e00, _, wf0⟩ := DataW.trod_int Try.underlying3 hy00
  obtain ⟨m0', e01, _, wg0⟩ := DataW.trod_int Try.underlying3 hy01
  simp only [List.cons.injEq, and_true] at e00 e01
  subst e00 e01
  obtain ⟨a0, xs0, cap0, rfl, rd0, wl0⟩ := rd_of_trod hy02
  obtain ⟨a1, len1, cap1, rfl⟩ := okWide_slice Try.underlying22 (hval 1 22 v1 rfl rfl)
  obtain ⟨a1, xs1, cap1, e1, rd1, wl1⟩ := (by obtain ⟨fu, hf⟩ := h1; simp only [Value.cells] at hf; exact rd_of_trod hf : ∃ (a : Option Addr) (xs : List Int) (cap : Nat), Value.slice a1 len1 cap1 = .slice a xs.length cap ∧ Rd W a xs ∧ ∀ k, k < xs.length → (Lit.int .i64 (nth xs k)).wf = true)
  simp only [Value.slice.injEq] at e1
  obtain ⟨rfl, rfl, rfl⟩ := e1
  clear hA0 hval0
  refine (walk n0 m0' a0 xs0 cap0 a1 xs1 cap1 W (wf_bd wf0) (wf_bd wg0) rd0 rd1).mono fun e W' ⟨he, bel⟩ => ?_
  subst he
  exact ⟨_, rfl, _, _, _, [], _, [], hW', trodAll_mk1 (shut_bool Try.underlying4 _), (trodAll_cons_mk (Below.trod laidOut (by kernel_rfl) (of_decide_eq_true (by kernel_rfl)) h0 bel lt0) (trodAll_cons_mk (Below.trod laidOut (by kernel_rfl) (of_decide_eq_true (by kernel_rfl)) h1 bel lt1) trodAll_mk0)), rfl, bel.frame _, fun h => by cases h⟩
theorem proved : Rows.FnExactFreeOrderSaid :=
  OpenClaim.holds_of_wide 11 Try.f11 rfl rfl rfl rfl rfl rfl rfl ⟨rfl, rfl, rfl, rfl, rfl⟩ rfl rfl rfl rfl rfl (by kernel_rfl) Try.func11 (by kernel_rfl)
    (of_decide_eq_true (by kernel_rfl)) (by unfold Func.isWrapper; first | (rw [if_pos (by decide +kernel)]; kernel_rfl) | (rw [if_neg (by decide +kernel)]; exact ⟨rfl, rfl⟩))
    (fun os started H enc _ => lifted os started H enc)

end Go.Proofs.Ytkfgeccgcffgaaa.freeOrder
